"""Nets of seconds that copy one another: how long old copies live, and to which serials they come."""

from rootward.checks import check_node, is_moment, is_node
from rootward.errors import InvalidNet, InvalidRun, InvalidSerial, InvalidStand, TooMany
from rootward.nets import are_nodes, are_ups, led_to, shortest_list
from rootward.serials import is_serial
from rootward.stands import Stands
from rootward.values import is_whole, renewed

MOST_STANDS = 20000


def tells_until(seconds, run):
    """Return a dict: to each node the last moment at which it tells behind a run."""
    _check_seconds(seconds)
    if not isinstance(run, list):
        raise InvalidRun(0)
    last = {node: expire - 1 for node, (expire, _) in seconds.items()}
    for index, step in enumerate(run):
        if not _is_step(seconds, step) or (index > 0 and step[0] < run[index - 1][0]):
            raise InvalidRun(index)
        moment, node, up = step
        # A success at the moment 0 changes nothing, whoever is asked.
        if up is not None and moment <= last[up]:
            last[node] = moment + seconds[node][0] - 1
    return last


def _is_step(seconds, value):
    """Return whether any object is a tuple of a moment, a node and one of its ups."""
    return isinstance(value, tuple) and len(value) == 3 and is_moment(value[0]) and _is_move(seconds, value[1:])


def _is_move(seconds, value):
    """Return whether any object is a tuple of a node and one of its ups."""
    if not isinstance(value, tuple) or len(value) != 2 or not is_node(value[0]) or value[0] not in seconds:
        return False
    return value[1] in seconds[value[0]][1]


def longest_life(seconds, node):
    """Return the greatest last moment at which a node tells, for all runs; None without a greatest one."""
    _check(seconds, node)
    return None if _is_endless(seconds, node) else _lives(seconds)[0][node]


def life_run(seconds, node):
    """Return a run behind which a node tells up to the greatest moment; None without a greatest one."""
    _check(seconds, node)
    if _is_endless(seconds, node):
        return None
    lives, ahead = _lives(seconds)
    run = []
    while ahead[node] is not None:
        run = [(lives[ahead[node]], node, ahead[node])] + run
        node = ahead[node]
    return run


def life_ring(seconds, node):
    """Return the nodes of a ring that keeps old copies alive and leads to a node; None without one."""
    _check(seconds, node)
    starts = _renewing(seconds, node)
    if len(starts) == 0:
        return None
    ups = _ups_of(seconds)
    further = [other for other in ups if starts[0] in ups[other]]
    return [starts[0]] + shortest_list(ups, further, starts[0])


def _ups_of(seconds):
    return {node: ups for node, (_, ups) in seconds.items()}


def _renewing(seconds, node):
    """Return the nodes with an expire above 1 that lead to themselves and to a node, or are it."""
    leading = led_to(_ups_of(seconds))
    return [other for other in seconds
            if seconds[other][0] > 1 and other in leading[other] and other in leading[node] + [node]]


def _is_endless(seconds, node):
    return len(_renewing(seconds, node)) > 0


def _lives(seconds):
    """Return two dicts: to each node its greatest last moment on lists of so many nodes, and the one that it asks."""
    lives = {node: expire - 1 for node, (expire, _) in seconds.items()}
    ahead = {node: None for node in seconds}
    for _ in seconds:
        for node, (expire, ups) in seconds.items():
            for up in ups:
                if up is not None and lives[up] + expire - 1 > lives[node]:
                    lives[node] = lives[up] + expire - 1
                    ahead[node] = up
    return (lives, ahead)


def judge_lives(seconds, value):
    """Return whether any object is a dict that shows that no node lives longer than it tells."""
    _check_seconds(seconds)
    if not isinstance(value, dict) or len(value) != len(seconds) or not all([node in value for node in seconds]):
        return False
    if not all([life is None or is_whole(life) for life in value.values()]):
        return False
    return all([_is_life(seconds[node], value, value[node]) for node in seconds])


def _is_life(row, lives, life):
    """Return whether None or an integer is at least what each up of a node makes of it."""
    if life is None:
        return True
    expire, ups = row
    ahead = [lives[up] for up in ups if up is not None]
    return life >= expire - 1 and all([other is not None and life >= other + expire - 1 for other in ahead])


def moves_of(seconds, serial, stand):
    """Return the moves of a stand, by nodes, None first among ups."""
    return _stands(seconds, serial, stand).moves()


def settled_stands(seconds, serial, stand):
    """Return the settled stands to which rows of moves lead, each as a list of tuples (node, serial), in order."""
    return _few_stands(seconds, serial, stand).settled()


def endless(seconds, serial, stand):
    """Return moves to a stand and those of a ring from there back to it; None if each row of moves ends."""
    return _few_stands(seconds, serial, stand).endless()


def judge_endless(seconds, serial, stand, value):
    """Return whether any object is moves to a stand and those of a ring from there back to it."""
    stands = _stands(seconds, serial, stand)
    if not isinstance(value, tuple) or len(value) != 2 or not all([isinstance(part, list) for part in value]):
        return False
    moves, ring = value
    if len(ring) == 0 or not all([_is_move(seconds, move) for move in moves + ring]):
        return False
    passed = stands.behind(moves + ring)
    return passed is not None and passed[len(moves)] == passed[-1]


def comes_to_newest(seconds, serial, stand):
    """Return True if each row of moves ends, and ends with the serial of the first at all nodes if it cannot go on."""
    stands = _few_stands(seconds, serial, stand)
    if stands.endless() is not None:
        return False
    return all([other == serial for row in stands.settled() for _, other in row])


def _stands(seconds, serial, stand):
    _check_seconds(seconds)
    if not is_serial(serial):
        raise InvalidSerial(renewed(serial))
    if not isinstance(stand, dict) or len(stand) != len(seconds) or not all([node in stand for node in seconds]):
        raise InvalidStand(renewed(stand))
    if not all([is_serial(other) for other in stand.values()]):
        raise InvalidStand(renewed(stand))
    return Stands(seconds, serial, stand)


def _few_stands(seconds, serial, stand):
    stands = _stands(seconds, serial, stand)
    if stands.many > MOST_STANDS:
        raise TooMany(stands.many)
    return stands


def _check_seconds(seconds):
    if not are_nodes(seconds) or not all([_is_second(row, seconds, node) for node, row in seconds.items()]):
        raise InvalidNet(renewed(seconds))


def _is_second(value, seconds, node):
    """Return whether any object is what a net of seconds can have for a node."""
    if not isinstance(value, tuple) or len(value) != 2:
        return False
    expire, ups = value
    return is_whole(expire) and expire >= 1 and are_ups(ups, seconds, node)


def _check(seconds, node):
    _check_seconds(seconds)
    check_node(seconds, node)
