"""Nets of caches that ask one another: what runs tell, and how stale it may be for all timelines and runs."""

from rootward.chainlists import Lists, first_of, more_of
from rootward.checks import check_count, check_moment, check_node, is_bound, is_moment, is_policy
from rootward.entries import life_under
from rootward.errors import InvalidNet, InvalidRun
from rootward.nets import are_nodes, are_ups, led_to
from rootward.timelines import check_timeline, force_at
from rootward.values import is_whole, renewed


def told_run(caches, timeline, run):
    """Return for each step of a run the tuple (value, left) that the first node tells."""
    _check_caches(caches)
    check_timeline(timeline)
    if not isinstance(run, list):
        raise InvalidRun(0)
    keepers = Keepers(caches, timeline)
    found = []
    for index, step in enumerate(run):
        if not _is_step(caches, step) or (index > 0 and step[0] < run[index - 1][0]) or not keepers.goes(step):
            raise InvalidRun(index)
        found.append(keepers.tell(step))
    return found


def _is_step(caches, value):
    """Return whether any object is a tuple of a moment, nodes that ask the next one, and True or False."""
    if not isinstance(value, tuple) or len(value) != 3 or not is_moment(value[0]) or not isinstance(value[2], bool):
        return False
    ways = value[1]
    if not isinstance(ways, list) or len(ways) == 0 or not all([isinstance(node, str) for node in ways]):
        return False
    if not all([node in caches for node in ways]) or len({node: True for node in ways}) != len(ways):
        return False
    return all([up in caches[node][2] for node, up in zip(ways, ways[1:])])


class Keepers:
    """What the nodes of a net of caches keep in a run: to each a tuple (value, until), if something came in."""

    def __init__(self, caches, timeline):
        self._rows = dict(caches)
        self._source = list(timeline)
        self._held = {}

    def goes(self, step):
        """Return whether the entries of the nodes let a question go as a step tells."""
        moment, ways, silent = step
        if any([self._lives(node, moment) for node in ways[:-1]]):
            return False
        _, grace, ups = self._rows[ways[-1]]
        if not silent:
            return None in ups or self._lives(ways[-1], moment)
        if ways[-1] not in self._held or self._lives(ways[-1], moment):
            return False
        return grace is None or moment < self._held[ways[-1]][1] + grace

    def tell(self, step):
        """Return what the first node of a step tells, and keep what the nodes have then."""
        moment, ways, silent = step
        asking = list(ways)
        if silent or self._lives(ways[-1], moment):
            value, until = self._held[asking.pop()]
            left = 1 if silent else until - moment
        else:
            _, left, value = force_at(self._source, moment)
        for node in reversed(asking):
            left = life_under(self._rows[node][0], left)
            if left > 0:
                self._held[node] = (value, moment + left)
        return (value, left)

    def _lives(self, node, moment):
        return node in self._held and moment < self._held[node][1]


def greatest_stale(caches, node, age):
    """Return the greatest staleness of what a node tells, None if there is no greatest one."""
    _check(caches, node, age)
    return Lists(caches, age).greatest(node)


def stale_way(caches, node, age):
    """Return the nodes, from one that asks the source on, along which it comes about; None without such a list."""
    _check(caches, node, age)
    return _stalest_list(Lists(caches, age), node)


def _stalest_list(lists, node):
    return lists.stalest_list(node) if lists.is_fed(node) and not lists.is_endless(node) else None


def worst_run(caches, node, age):
    """Return a tuple (timeline, run) that reaches the greatest staleness at its last step; None without one."""
    _check(caches, node, age)
    lists = Lists(caches, age)
    nodes = _stalest_list(lists, node)
    if nodes is None:
        return None
    if age == 0:
        # Nothing is kept, so that one question goes all the way.
        return ([(0, 0, "old")], [(0, nodes[::-1], False)])
    run = [(0, nodes[:1], False)]
    moments = lists.moments(nodes)
    for at, moment in enumerate(moments):
        run.append((moment, nodes[at:at + 2][::-1], caches[nodes[at]][1] > 0))
    return ([(0, age, "old"), (1, age, "new")], run)


def stale_ranks(caches, age):
    """Return a dict: to each node the greatest staleness of what it tells."""
    _check_caches(caches)
    check_count(age)
    lists = Lists(caches, age)
    return {node: lists.greatest(node) for node in caches}


def judge_ranks(caches, age, value):
    """Return whether any object is a dict that shows for a net without rings that nothing staler is told."""
    _check_caches(caches)
    check_count(age)
    leading = led_to({node: row[2] for node, row in caches.items()})
    if any([node in leading[node] for node in caches]):
        return False
    if not isinstance(value, dict) or len(value) != len(caches) or not all([node in value for node in caches]):
        return False
    if not all([rank is None or is_whole(rank) for rank in value.values()]):
        return False
    return all([_is_rank(caches[node], age, value, value[node]) for node in caches])


def _is_rank(row, age, ranks, rank):
    """Return whether None or an integer is at least what each up of a node makes of it."""
    if rank is None:
        return True
    for up in row[2]:
        ahead = 0 if up is None else ranks[up]
        added = first_of(row, age) if up is None else more_of(row)
        if ahead is None or added is None or rank < ahead + added:
            return False
    return True


def settled_net(caches, node, age, change):
    """Return the first moment from which on a node tells what is in force since a change; None without one."""
    _check(caches, node, age)
    check_moment(change)
    greatest = Lists(caches, age).greatest(node)
    return None if greatest is None else change + greatest


def _check_caches(caches):
    if not are_nodes(caches) or not all([_is_cache(row, caches, node) for node, row in caches.items()]):
        raise InvalidNet(renewed(caches))


def _is_cache(value, caches, node):
    """Return whether any object is what a net of caches can have for a node."""
    if not isinstance(value, tuple) or len(value) != 3:
        return False
    policy, grace, ups = value
    return is_policy(policy) and is_bound(grace) and are_ups(ups, caches, node)


def _check(caches, node, age):
    _check_caches(caches)
    check_node(caches, node)
    check_count(age)
