"""Forests: zones that hang on one another, the machines that tell them, and the plain reading of all names."""

from rootward.checks import are_addresses, check_asked_kind, check_machine, check_plain_name, is_address
from rootward.errors import InvalidApex, InvalidForest
from rootward.forestparts import chased, cut_of, home_of, homes_of, parent_of, servers_of, zones_by_apex
from rootward.labels import is_asked
from rootward.nameparts import ends_with, in_order
from rootward.values import renewed
from rootward.zones import Zone


class Forest:
    """Some zones, one of them the root, and the machines that tell them; it never changes."""

    def __init__(self, zones, serves, roots):
        if not _are_zones(zones):
            raise InvalidForest("zones")
        zone_at = {zone.apex: zone for zone in zones}
        if not _are_served(serves, zone_at):
            raise InvalidForest("serves")
        if not are_addresses(roots) or len(roots) == 0 or not all([machine in serves for machine in roots]):
            raise InvalidForest("roots")
        self._zones = [zone_at[apex] for apex in in_order(list(zone_at))]
        self._served = {machine: in_order(serves[machine]) for machine in sorted(serves)}
        self._roots = list(roots)

    def __eq__(self, other):
        if not isinstance(other, Forest):
            return False
        return self._zones == other._zones and self._served == other._served and self._roots == other._roots

    @property
    def zones(self):
        """The zones, by their apexes in the order of names."""
        return list(self._zones)

    @property
    def machines(self):
        """The machines, ascending."""
        return list(self._served)

    @property
    def roots(self):
        """The machines at which each asking begins, ascending."""
        return list(self._roots)

    def zone(self, apex):
        """Return the zone with an apex."""
        for zone in self._zones:
            if zone.apex == apex:
                return zone
        raise InvalidApex(renewed(apex))

    def serves(self, machine):
        """Return the apexes of the zones that a machine tells, in the order of names."""
        check_machine(machine)
        return list(self._served.get(machine, []))


def _are_zones(value):
    """Return whether any object is a list of zones with unlike apexes, one of them the root."""
    if not isinstance(value, list) or not all([isinstance(zone, Zone) for zone in value]):
        return False
    apexes = {zone.apex: True for zone in value}
    return len(apexes) == len(value) and () in apexes


def _are_served(value, zone_at):
    """Return whether any object is a dict: to each of some addresses a list of unlike apexes of zones."""
    if not isinstance(value, dict) or not all([is_address(machine) for machine in value]):
        return False
    return all([_are_apexes(apexes, zone_at) for apexes in value.values()])


def _are_apexes(value, zone_at):
    if not isinstance(value, list) or not all([is_asked(apex) and apex in zone_at for apex in value]):
        return False
    return len({apex: True for apex in value}) == len(value)


def check_forest(forest):
    """Raise InvalidForest if any object is no forest."""
    if not isinstance(forest, Forest):
        raise InvalidForest(renewed(forest))


def check_apex(forest, apex):
    """Raise InvalidApex if any object is no apex of a zone of a forest."""
    if not any([zone.apex == apex for zone in forest.zones]):
        raise InvalidApex(renewed(apex))


def check_question(forest, name, kind):
    """Raise the first error of a forest, a name without `*` and a kind."""
    check_forest(forest)
    check_plain_name(name)
    check_asked_kind(kind)


def home(forest, name):
    """Return the apex of the home of a name."""
    check_forest(forest)
    check_plain_name(name)
    return home_of(zones_by_apex(forest), name)


def parent(forest, apex):
    """Return the apex of the parent of a zone, None of the root."""
    check_forest(forest)
    check_apex(forest, apex)
    return parent_of(zones_by_apex(forest), apex)


def plain(forest, name, kind):
    """Return how the plain reading of a name and kind ends, and the names of its chase."""
    check_question(forest, name, kind)
    return chased(zones_by_apex(forest), name, kind)


def homes(forest, name, kind):
    """Return the apexes of the homes of all names of a chase, in the order of names."""
    check_question(forest, name, kind)
    zones = zones_by_apex(forest)
    return homes_of(zones, chased(zones, name, kind)[1])


def faults(forest):
    """Return the faults of a forest: where what zones tell of others is not what these are."""
    check_forest(forest)
    zones = zones_by_apex(forest)
    found = []
    for apex in zones:
        if apex != ():
            found.extend(_faults_at(forest, zones, apex))
    for apex, zone in zones.items():
        found.extend([("no zone", apex, cut) for cut in zone.cuts() if cut not in zones])
    return found


def _faults_at(forest, zones, apex):
    """Return the faults of the cut at which a zone begins."""
    cut = cut_of(zones, apex)
    if cut is None:
        return [("no cut", apex)]
    found = []
    if cut[3] != zones[apex].set_at(apex, "server")[3]:
        found.append(("servers", apex))
    for server, has_glue, addresses, _ in servers_of(zones, apex):
        if has_glue and not _is_found(zones, server, addresses):
            found.append(("glue", apex, server))
        if not has_glue and ends_with(server, apex):
            found.append(("glue lacking", apex, server))
        found.extend([("lame", apex, server, machine) for machine in addresses if apex not in forest.serves(machine)])
    return found


def _is_found(zones, server, addresses):
    """Return whether the plain reading of a server finds just some addresses."""
    outcome = chased(zones, server, "addr")[0]
    return outcome[0] == "found" and outcome[2] == addresses
