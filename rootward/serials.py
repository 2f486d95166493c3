"""Serials on their circle: which is ahead of which, and ways from one to another one."""

from rootward.errors import InvalidNumber, InvalidSerial
from rootward.records import MOST_SERIAL
from rootward.values import is_between, rebuilt

ROUND = 2 ** 32
# As far as one serial may be ahead of another one.
REACH = 2 ** 31 - 1
MOST_MISSED = 1000


def is_serial(value):
    """Return whether any object is a serial."""
    return is_between(value, 0, MOST_SERIAL)


def check_serial(serial):
    """Raise InvalidSerial if any object is no serial."""
    if not is_serial(serial):
        raise InvalidSerial(rebuilt(serial))


def _way_round(one, other):
    """Return how much further on the circle another serial is."""
    return (other - one) % ROUND


def newer(one, other):
    """Return True if a serial is ahead of another one, otherwise False."""
    check_serial(one)
    check_serial(other)
    return 1 <= _way_round(other, one) <= REACH


def further(serial, steps):
    """Return the serial so many steps further on the circle."""
    check_serial(serial)
    if steps < 0:
        raise InvalidNumber(steps)
    return (serial + steps) % ROUND


def newest(serials):
    """Return the serial that is ahead of all others that are unlike it, None if there is none."""
    for serial in serials:
        check_serial(serial)
    for serial in serials:
        if all([serial == other or newer(serial, other) for other in serials]):
            return serial
    return None


def _check_ends(one, other, missed):
    check_serial(one)
    check_serial(other)
    if not 0 <= missed <= MOST_MISSED:
        raise InvalidNumber(missed)


def _farthest(many, together):
    """Return how far a way of so many steps goes at most if any so many together go no further than one may.

    Then one step of each so many together is a great one, and the others go on by 1."""
    if many <= together:
        return REACH
    full, rest = divmod(many, together)
    if rest == 0:
        return full * REACH
    return full * REACH + REACH - (together - rest)


def fewest_steps(one, other, missed):
    """Return the least number of serials of a way by which seconds may miss so many versions."""
    _check_ends(one, other, missed)
    distance = _way_round(one, other)
    if distance == 0:
        return 0
    many = 1
    while _farthest(many, missed + 1) < distance:
        many += 1
    return many


def steps(one, other, missed):
    """Return a way with the least number of serials."""
    many = fewest_steps(one, other, missed)
    together = missed + 1
    room = _way_round(one, other) - many
    way = []
    serial = one
    for index in range(many):
        # A great step takes as much of the way as it may; the others go on by 1.
        more = min(room, REACH - min(many, together)) if index % together == 0 else 0
        room = room - more
        serial = further(serial, 1 + more)
        way.append(serial)
    return way


def judge_steps(one, other, missed, value):
    """Return whether any object is a way with the least number of serials."""
    many = fewest_steps(one, other, missed)
    if not isinstance(value, list) or len(value) != many or not all([is_serial(serial) for serial in value]):
        return False
    return ([one] + value)[-1] == other and _is_way([one] + value, missed + 1)


def _is_way(way, together):
    """Return whether each serial of a way is ahead of each of so many together ahead of it.

    As each step is no longer than one may be, so many together first go too far by less than once around the circle;
    so it is enough to look at the greatest number of steps together."""
    gone = [0]
    for serial, ahead in zip(way[1:], way):
        if not newer(serial, ahead):
            return False
        gone.append(gone[-1] + _way_round(ahead, serial))
    return all([gone[index] - gone[max(0, index - together)] <= REACH for index in range(len(gone))])
