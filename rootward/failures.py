"""Which machines a zone needs: the least sets that keep it, the least sets that stop it, and what shows the latter."""

from rootward.checks import are_addresses, check_count
from rootward.errors import TooMany
from rootward.forests import check_apex, check_forest
from rootward.reach import ways_to_reach
from rootward.values import is_same

MOST_MACHINES = 12


def keeping(forest, apex):
    """Return the least sets of machines that keep a zone."""
    _check(forest, apex)
    return Kept(forest, apex).keeping()


def stopping(forest, apex):
    """Return the least sets of machines that stop a zone."""
    _check(forest, apex)
    return Kept(forest, apex).stopping()


def fewest_to_stop(forest, apex):
    """Return the first of the least sets of machines that stop a zone, None without one."""
    sets = stopping(forest, apex)
    return sets[0] if len(sets) > 0 else None


def safe_against(forest, apex, count):
    """Return whether no set of at most so many machines stops a zone."""
    _check(forest, apex)
    check_count(count)
    return all([len(machines) > count for machines in Kept(forest, apex).stopping()])


def stop_tree(forest, apex):
    """Return a stop tree of a zone for the size of the smallest set that stops it."""
    _check(forest, apex)
    kept = Kept(forest, apex)
    return _tree(kept.keeping(), len(kept.stopping()[0]), [])


def _tree(sets, many, down):
    """Return a stop tree for a number and machines that are down; sets are the least ones that keep the zone."""
    if many == 0:
        return None
    machines = [row for row in sets if not any([machine in down for machine in row])][0]
    return (list(machines), [(machine, _tree(sets, many - 1, down + [machine])) for machine in machines])


def judge_stop_tree(forest, apex, count, value):
    """Return whether any object is a stop tree of a zone for a number."""
    _check(forest, apex)
    check_count(count)
    return Kept(forest, apex).is_tree(count, [], value)


def _check(forest, apex):
    check_forest(forest)
    check_apex(forest, apex)


class Kept:
    """Which sets of the machines of a forest keep a zone; a set is a number with a bit for each machine."""

    def __init__(self, forest, apex):
        self._machines = forest.machines
        if len(self._machines) > MOST_MACHINES:
            raise TooMany(len(self._machines))
        self._all = (1 << len(self._machines)) - 1
        self._keeps = _table(forest, apex)

    def keeping(self):
        """Return the least sets that keep the zone."""
        keeps = self._keeps
        return self._least([bits for bits in range(len(keeps)) if keeps[bits]])

    def stopping(self):
        """Return the least sets that stop the zone."""
        keeps = self._keeps
        return self._least([bits for bits in range(len(keeps)) if not keeps[self._all ^ bits]])

    def _least(self, sets):
        """Return those of which no part, with a machine less, is among some sets, in order."""
        among = {bits: True for bits in sets}
        places = range(len(self._machines))
        least = [bits for bits in sets if not any([bits >> at & 1 == 1 and bits - (1 << at) in among for at in places])]
        return sorted([[self._machines[at] for at in places if bits >> at & 1 == 1] for bits in least], key=_size_ahead)

    def is_tree(self, many, down, value):
        """Return whether any object is a stop tree for a number and machines that are down."""
        if many == 0:
            return value is None
        if not isinstance(value, tuple) or len(value) != 2 or not isinstance(value[1], list):
            return False
        machines, branches = value
        if not self._keeps_with(machines, down) or len(branches) != len(machines):
            return False
        for machine, branch in zip(machines, branches):
            if not isinstance(branch, tuple) or len(branch) != 2 or not is_same(branch[0], machine):
                return False
            if not self.is_tree(many - 1, down + [machine], branch[1]):
                return False
        return True

    def _keeps_with(self, value, down):
        """Return whether any object is an ascending list of machines that keep the zone, none of them down."""
        if not are_addresses(value) or not all([machine in self._machines for machine in value]):
            return False
        bits = sum([1 << self._machines.index(machine) for machine in value])
        return self._keeps[bits] and not any([machine in down for machine in value])


def _size_ahead(machines):
    return (len(machines), machines)


def _table(forest, apex):
    """Return a list: for each set of machines whether the zone is reached with just these up."""
    rows = _rows(forest)
    goal = 1 << [row[0] for row in rows].index(apex)
    keeps = []
    for bits in range(1 << len(forest.machines)):
        # What a smaller set keeps a greater one does, too.
        smaller = [bits - (1 << at) for at in range(len(forest.machines)) if bits >> at & 1 == 1]
        keeps.append(any([keeps[part] for part in smaller]) or _reached(rows, bits) & goal > 0)
    return keeps


def _rows(forest):
    """Return the tuples (apex, dict) of all zones: to the bits of zones that have to be reached those of machines."""
    machines = forest.machines
    ways = ways_to_reach(forest, machines)
    bit_of = {apex: 1 << at for at, apex in enumerate(ways)}
    rows = []
    for apex in ways:
        needed = {}
        for step, needs in ways[apex]:
            bits = sum([bit_of[need] for need in {other: True for other in needs}])
            needed[bits] = needed.get(bits, 0) | 1 << machines.index(step[-1])
        rows.append((apex, needed))
    return rows


def _reached(rows, up):
    """Return the bits of the zones that are reached with the machines of some bits up."""
    found, many = 0, -1
    while found != many:
        many = found
        for at, (_, needed) in enumerate(rows):
            if any([up & machines > 0 and found & zones == zones for zones, machines in needed.items()]):
                found = found | 1 << at
    return found
