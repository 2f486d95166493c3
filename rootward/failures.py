"""Which machines a zone needs: the least sets that keep it, the least sets that stop it, and what shows the latter."""

from rootward.checks import are_addresses, check_count
from rootward.errors import TooMany
from rootward.forests import check_apex, check_forest
from rootward.reach import ways_to_reach
from rootward.values import is_same

MOST_MACHINES = 12


def keeping(forest, apex):
    """Return the least sets of machines that keep a zone."""
    kept = _kept(forest, apex)
    return kept.keeping(kept.all_sets())


def stopping(forest, apex):
    """Return the least sets of machines that stop a zone."""
    kept = _kept(forest, apex)
    return kept.stopping(kept.all_sets())


def fewest_to_stop(forest, apex):
    """Return the first of the least sets of machines that stop a zone, None without one."""
    sets = stopping(forest, apex)
    return sets[0] if len(sets) > 0 else None


def safe_against(forest, apex, count):
    """Return whether no set of at most so many machines stops a zone."""
    _check(forest, apex)
    check_count(count)
    return all([len(machines) > count for machines in stopping(forest, apex)])


def stop_tree(forest, apex):
    """Return a stop tree of a zone for the size of the smallest set that stops it."""
    kept = _kept(forest, apex)
    table = kept.all_sets()
    return _tree(kept.keeping(table), len(kept.stopping(table)[0]), [])


def _tree(sets, many, down):
    """Return a stop tree for a number and machines that are down; sets are the least ones that keep the zone."""
    if many == 0:
        return None
    machines = [row for row in sets if not any([machine in down for machine in row])][0]
    return (list(machines), [(machine, _tree(sets, many - 1, down + [machine])) for machine in machines])


def judge_stop_tree(forest, apex, count, value):
    """Return whether any object is a stop tree of a zone for a number."""
    _check(forest, apex)
    check_count(count)
    return _kept(forest, apex).is_tree(count, [], value)


def _check(forest, apex):
    check_forest(forest)
    check_apex(forest, apex)


def _kept(forest, apex):
    _check(forest, apex)
    if len(forest.machines) > MOST_MACHINES:
        raise TooMany(len(forest.machines))
    return Kept(forest, apex)


class Kept:
    """Which sets of machines keep a zone of a forest; a set is a number with a bit for each machine.

    Machines without a step on any way to the zone have no bit, as they make no set another one."""

    def __init__(self, forest, apex):
        ways = _ways_needed(ways_to_reach(forest, forest.machines), apex)
        self._all = forest.machines
        self._busy = sorted({step[-1]: True for rows in ways.values() for step, _ in rows})
        self._rows = _rows(ways, self._busy)
        # The zone itself is the first of those that it needs.
        self._goal = 1
        self._known = {}

    def all_sets(self):
        """Return a list: for each set of machines that have a bit whether it keeps the zone."""
        places = range(len(self._busy))
        keeps = []
        for bits in range(1 << len(self._busy)):
            # What a smaller set keeps a greater one does, too.
            smaller = [bits - (1 << at) for at in places if bits >> at & 1 == 1]
            keeps.append(any([keeps[part] for part in smaller]) or _reached(self._rows, bits) & self._goal > 0)
        return keeps

    def keeping(self, keeps):
        """Return the least sets that keep the zone, by the table of all."""
        return self._least([bits for bits in range(len(keeps)) if keeps[bits]])

    def stopping(self, keeps):
        """Return the least sets that stop the zone, by the table of all."""
        return self._least([bits for bits in range(len(keeps)) if not keeps[len(keeps) - 1 - bits]])

    def _least(self, sets):
        """Return those of which no part, with a machine less, is among some sets, in order."""
        among = {bits: True for bits in sets}
        places = range(len(self._busy))
        least = [bits for bits in sets if not any([bits >> at & 1 == 1 and bits - (1 << at) in among for at in places])]
        return sorted([[self._busy[at] for at in places if bits >> at & 1 == 1] for bits in least], key=_size_ahead)

    def is_tree(self, many, down, value):
        """Return whether any object is a stop tree for a number and machines that are down."""
        if many == 0:
            return value is None
        if not isinstance(value, tuple) or len(value) != 2 or not isinstance(value[1], list):
            return False
        machines, branches = value
        if not self._keeps_with(machines, down) or len(branches) != len(machines):
            return False
        for machine, branch in zip(machines, branches):
            if not isinstance(branch, tuple) or len(branch) != 2 or not is_same(branch[0], machine):
                return False
            if not self.is_tree(many - 1, down + [machine], branch[1]):
                return False
        return True

    def _keeps_with(self, value, down):
        """Return whether any object is an ascending list of machines that keep the zone, none of them down."""
        if not are_addresses(value) or not all([machine in self._all for machine in value]):
            return False
        return not any([machine in down for machine in value]) and self._keeps(value)

    def _keeps(self, machines):
        """Return whether a set keeps the zone; trees name the same sets again and again."""
        bits = sum([1 << at for at, machine in enumerate(self._busy) if machine in machines])
        if bits not in self._known:
            self._known[bits] = _reached(self._rows, bits) & self._goal > 0
        return self._known[bits]


def _size_ahead(machines):
    return (len(machines), machines)


def _ways_needed(ways, apex):
    """Return the ways to a zone and to all that it needs, this zone first."""
    needed = {apex: ways[apex]}
    for _ in ways:
        needs = [need for rows in needed.values() for _, row in rows for need in row]
        needed.update({need: ways[need] for need in needs})
    return needed


def _rows(ways, machines):
    """Return the dicts of the zones of some ways: to the bits of zones that have to be reached those of machines."""
    bit_of = {apex: 1 << at for at, apex in enumerate(ways)}
    machine_bit = {machine: 1 << at for at, machine in enumerate(machines)}
    rows = []
    for apex in ways:
        needed = {}
        for step, needs in ways[apex]:
            bits = sum([bit_of[need] for need in {other: True for other in needs}])
            needed[bits] = needed.get(bits, 0) | machine_bit[step[-1]]
        rows.append(needed)
    return rows


def _reached(rows, up):
    """Return the bits of the zones that are reached with the machines of some bits up."""
    found, many = 0, -1
    while found != many:
        many = found
        for at, needed in enumerate(rows):
            if any([up & machines > 0 and found & zones == zones for zones, machines in needed.items()]):
                found = found | 1 << at
    return found
