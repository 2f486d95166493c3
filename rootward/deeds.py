"""Deeds of worlds as tuples: which objects are some, and how they are done."""

from rootward.checks import is_address, is_moment, is_node
from rootward.errors import InvalidDeed, TreeError
from rootward.labels import is_asked
from rootward.records import is_kind
from rootward.zones import Zone

PARTS = {"wait": 2, "change": 2, "stop": 2, "start": 2, "ask": 4}


def is_deed(value):
    """Return whether any object is a deed, in whatever world it can be done."""
    if not isinstance(value, tuple) or len(value) == 0 or not isinstance(value[0], str) or value[0] not in PARTS:
        return False
    if len(value) != PARTS[value[0]]:
        return False
    if value[0] == "ask":
        return is_node(value[1]) and is_asked(value[2]) and is_kind(value[3])
    if value[0] == "change":
        return isinstance(value[1], Zone)
    return is_moment(value[1]) if value[0] == "wait" else is_address(value[1])


def do(world, deed):
    """Do a deed in a world; return what it tells, None for all but an ask."""
    if deed[0] == "wait":
        return world.wait(deed[1])
    if deed[0] == "change":
        return world.change(deed[1])
    if deed[0] == "stop":
        return world.stop(deed[1])
    if deed[0] == "start":
        return world.start_again(deed[1])
    return world.ask(deed[1], deed[2], deed[3])


def do_at(world, script, index):
    """Do an entry of a script in a world, or raise InvalidDeed if it is no deed or cannot be done."""
    if not is_deed(script[index]):
        raise InvalidDeed(index)
    try:
        return do(world, script[index])
    except TreeError:
        raise InvalidDeed(index)
