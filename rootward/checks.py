"""Parameters of forests and of all that is told of them, and the errors for what is none.

Here dicts are passed, too; so of an object that is refused dicts are built anew in the error like lists and tuples."""

from rootward.errors import InvalidKind, InvalidMachines, InvalidName, InvalidNumber
from rootward.labels import is_asked
from rootward.records import is_kind
from rootward.values import is_between, is_whole, renewed

MOST_ADDRESS = 2 ** 32 - 1
LONGEST_NODE = 8
LETTERS = "abcdefghijklmnopqrstuvwxyz"


def is_address(value):
    """Return whether any object is an address."""
    return is_between(value, 0, MOST_ADDRESS)


def are_addresses(value):
    """Return whether any object is an ascending list of unlike addresses."""
    if not isinstance(value, list) or not all([is_address(machine) for machine in value]):
        return False
    return all([machine < behind for machine, behind in zip(value, value[1:])])


def is_node(value):
    """Return whether any object is a text as nodes and views are."""
    return isinstance(value, str) and 1 <= len(value) <= LONGEST_NODE and value.strip(LETTERS) == ""


def check_plain_name(name):
    """Raise InvalidName if any object is no name without `*`."""
    if not is_asked(name):
        raise InvalidName(renewed(name))


def check_asked_kind(kind):
    """Raise InvalidKind if any object is no kind."""
    if not is_kind(kind):
        raise InvalidKind(renewed(kind))


def check_machine(machine):
    """Raise InvalidMachines if any object is no address."""
    if not is_address(machine):
        raise InvalidMachines(renewed(machine))


def check_machines(machines):
    """Raise InvalidMachines if any object is neither None nor an ascending list of unlike addresses."""
    if machines is not None and not are_addresses(machines):
        raise InvalidMachines(renewed(machines))


def check_count(count):
    """Raise InvalidNumber if any object is no integer from 0 on."""
    if not is_whole(count) or count < 0:
        raise InvalidNumber(renewed(count))
