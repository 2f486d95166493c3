"""Bad machines: which zones they can take, and which of what is told can be wrong."""

from rootward.checks import check_machines, is_address
from rootward.errors import InvalidTelling
from rootward.forestparts import home_of, parent_of, servers_of, zones_by_apex
from rootward.forests import check_apex, check_forest
from rootward.nameparts import ends_with, in_order
from rootward.reach import ways_to_reach
from rootward.records import is_set
from rootward.steps import apexes_shown, shown_by, steps_to
from rootward.values import is_same, renewed


class Hold:
    """What bad machines have a hold on in a forest."""

    def __init__(self, forest):
        self._forest = forest
        self.zone_at = zones_by_apex(forest)
        self._servers = {apex: servers_of(self.zone_at, apex) for apex in self.zone_at}

    def ways(self, bad):
        """Return to each apex the ways, as steps.py tells them, by which bad machines take its zone."""
        found = {(): [(("root", machine), []) for machine in self._forest.roots if machine in bad]}
        for apex in self.zone_at:
            if apex != ():
                found[apex] = [(("parent", apex), [parent_of(self.zone_at, apex)])]
            for server, _, addresses, homes in self._servers[apex]:
                machines = [machine for machine in addresses if machine in bad]
                found[apex].extend([(("machine", apex, server, machine), []) for machine in machines])
                found[apex].extend([(("server", apex, server, other), [other]) for other in homes])
        return found

    def taken(self, bad):
        """Return the apexes of the zones that can be taken, in the order of names."""
        ways = self.ways(bad)
        found = shown_by(ways)
        return [apex for apex in ways if apex in found]

    def counts(self, bad, taken, telling):
        """Return whether a telling counts; taken: the zones that the bad machines can take."""
        apex, machine, sets = telling
        if machine not in bad:
            return apex in self._forest.serves(machine) and all([self.has(apex, entry) for entry in sets])
        if apex == ():
            return machine in self._forest.roots
        if parent_of(self.zone_at, apex) in taken:
            return True
        for _, _, addresses, homes in self._servers[apex]:
            if machine in addresses or any([other in taken for other in homes]):
                return True
        return False

    def has(self, apex, entry):
        """Return whether a zone is the home of the name of a set, and has it so."""
        name, kind = entry[:2]
        return home_of(self.zone_at, name) == apex and is_same(entry, self.zone_at[apex].set_at(name, kind))


def _check(forest, bad):
    check_forest(forest)
    check_machines(bad)


def _listed(bad):
    return [] if bad is None else bad


def takeable(forest, bad):
    """Return the apexes of the zones that bad machines can take, in the order of names."""
    _check(forest, bad)
    return Hold(forest).taken(_listed(bad))


def take_steps(forest, bad, apex):
    """Return steps that show that a zone can be taken, None if it can't."""
    _check(forest, bad)
    check_apex(forest, apex)
    return steps_to(Hold(forest).ways(_listed(bad)), apex)


def judge_take_steps(forest, bad, apex, value):
    """Return whether any object is a list of steps that show that a zone can be taken."""
    _check(forest, bad)
    check_apex(forest, apex)
    shown = apexes_shown(Hold(forest).ways(_listed(bad)), value)
    return shown is not None and shown[-1:] == [apex]


def sound(forest, bad, apex):
    """Return whether a zone is reached with just the machines up that are not bad."""
    _check(forest, bad)
    check_apex(forest, apex)
    good = [machine for machine in forest.machines if machine not in _listed(bad)]
    return apex in shown_by(ways_to_reach(forest, good))


def least_takers(forest, apex):
    """Return the machines of a forest that alone, being bad, make a zone takeable, ascending."""
    check_forest(forest)
    check_apex(forest, apex)
    hold = Hold(forest)
    return [machine for machine in forest.machines if apex in hold.taken([machine])]


def _is_telling(forest, value):
    """Return whether any object is a telling."""
    if not isinstance(value, tuple) or len(value) != 3:
        return False
    apex, machine, sets = value
    if not any([zone.apex == apex for zone in forest.zones]) or not is_address(machine):
        return False
    return isinstance(sets, list) and all([is_set(entry) for entry in sets])


def counts(forest, bad, telling):
    """Return whether what a machine tells counts."""
    _check(forest, bad)
    if not _is_telling(forest, telling):
        raise InvalidTelling(renewed(telling))
    hold = Hold(forest)
    return hold.counts(_listed(bad), hold.taken(_listed(bad)), telling)


def wrong_names(forest, bad, tellings, *, strict=True):
    """Return the names of the wrong sets of tellings that count, in order; strict: of those within their zones."""
    _check(forest, bad)
    if not isinstance(tellings, list):
        raise InvalidTelling(0)
    for index, telling in enumerate(tellings):
        if not _is_telling(forest, telling):
            raise InvalidTelling(index)
    hold = Hold(forest)
    taken = hold.taken(_listed(bad))
    told = [telling for telling in tellings if hold.counts(_listed(bad), taken, telling)]
    sets = [entry for apex, _, sets in told for entry in sets if not strict or ends_with(entry[0], apex)]
    return in_order(list({entry[0]: True for entry in sets if not hold.has(home_of(hold.zone_at, entry[0]), entry)}))
