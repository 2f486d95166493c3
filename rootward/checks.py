"""Parameters of forests and of all that is told of them, and the errors for what is none.

Here dicts are passed, too; so of an object that is refused dicts are built anew in the error like lists and tuples."""

from rootward.errors import (
    InvalidKind, InvalidMachines, InvalidMoment, InvalidName, InvalidNumber, InvalidPolicy, InvalidSchedule,
    UnknownNode)
from rootward.labels import is_asked
from rootward.records import is_kind
from rootward.values import is_between, is_whole, renewed

MOST_ADDRESS = 2 ** 32 - 1
LONGEST_NODE = 8
LETTERS = "abcdefghijklmnopqrstuvwxyz"


def is_address(value):
    """Return whether any object is an address."""
    return is_between(value, 0, MOST_ADDRESS)


def are_addresses(value):
    """Return whether any object is an ascending list of unlike addresses."""
    if not isinstance(value, list) or not all([is_address(machine) for machine in value]):
        return False
    return all([machine < behind for machine, behind in zip(value, value[1:])])


def is_node(value):
    """Return whether any object is a text as nodes and views are."""
    return isinstance(value, str) and 1 <= len(value) <= LONGEST_NODE and value.strip(LETTERS) == ""


def is_moment(value):
    """Return whether any object is a moment; ages and counts are alike."""
    return is_whole(value) and value >= 0


def are_moments(value):
    """Return whether any object is an ascending list of moments, in which some may be equal."""
    if not isinstance(value, list) or not all([is_moment(moment) for moment in value]):
        return False
    return all([moment <= behind for moment, behind in zip(value, value[1:])])


def is_bound(value):
    """Return whether any object is an integer from 0 on, or None for no bound."""
    return value is None or is_moment(value)


def is_policy(value):
    """Return whether any object is a policy of caches."""
    if not isinstance(value, tuple) or len(value) != 2 or not all([is_moment(part) for part in value]):
        return False
    floor, ceiling = value
    return floor <= ceiling and ceiling >= 1


def check_plain_name(name):
    """Raise InvalidName if any object is no name without `*`."""
    if not is_asked(name):
        raise InvalidName(renewed(name))


def check_asked_kind(kind):
    """Raise InvalidKind if any object is no kind."""
    if not is_kind(kind):
        raise InvalidKind(renewed(kind))


def check_machine(machine):
    """Raise InvalidMachines if any object is no address."""
    if not is_address(machine):
        raise InvalidMachines(renewed(machine))


def check_machines(machines):
    """Raise InvalidMachines if any object is neither None nor an ascending list of unlike addresses."""
    if machines is not None and not are_addresses(machines):
        raise InvalidMachines(renewed(machines))


def check_count(count):
    """Raise InvalidNumber if any object is no integer from 0 on."""
    if not is_moment(count):
        raise InvalidNumber(renewed(count))


def check_bound(bound):
    """Raise InvalidNumber if any object is neither an integer from 0 on nor None."""
    if not is_bound(bound):
        raise InvalidNumber(renewed(bound))


def check_moment(moment):
    """Raise InvalidMoment if any object is no moment."""
    if not is_moment(moment):
        raise InvalidMoment(renewed(moment))


def check_schedule(schedule):
    """Raise InvalidSchedule if any object is no ascending list of moments."""
    if not are_moments(schedule):
        raise InvalidSchedule(renewed(schedule))


def check_policy(policy):
    """Raise InvalidPolicy if any object is no policy."""
    if not is_policy(policy):
        raise InvalidPolicy(renewed(policy))


def check_node(net, node):
    """Raise UnknownNode if any object is no node of a net or of books."""
    if not is_node(node) or node not in net:
        raise UnknownNode(renewed(node))
