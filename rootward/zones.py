"""Zones: the records at and below an apex, and the names that these make."""

from rootward.errors import InvalidSerial, InvalidZone, OutOfZone, Unfit
from rootward.labels import WILD, check_asked, check_name
from rootward.nameparts import ends_with, in_order, is_beneath
from rootward.records import MOST_SERIAL, check_kind, check_records, sets_of, sets_of_checked, unfolded
from rootward.values import is_between, rebuilt
from rootward.zonefaults import zone_faults


def faults(apex, records):
    """Return why some records are no zone's, as tuples (name, word), in order."""
    check_asked(apex)
    return zone_faults(apex, sets_of(records))


class Zone:
    """A zone, which never changes."""

    def __init__(self, apex, records):
        check_asked(apex)
        check_records(records)
        sets = sets_of_checked(records)
        for record in records:
            if not ends_with(record[0], apex):
                raise OutOfZone(record[0])
        found = zone_faults(apex, sets)
        if len(found) > 0:
            raise InvalidZone(found)
        self._apex = apex
        self._sets = sets
        self._set_at = {entry[:2]: entry for entry in sets}
        self._names = _names_had(apex, sets)
        start = self._set_at[(apex, "start")]
        self._serial = start[3][0][1]
        self._absent_age = min(start[2], start[3][0][5])

    def __len__(self):
        return len(unfolded(self._sets))

    def __eq__(self, other):
        return isinstance(other, Zone) and self._apex == other._apex and self._sets == other._sets

    @property
    def apex(self):
        """The apex."""
        return self._apex

    @property
    def serial(self):
        """The serial of the start."""
        return self._serial

    @property
    def absent_age(self):
        """For how long an absent or an empty answer may be kept."""
        return self._absent_age

    def records(self):
        """Return the records, in order."""
        return unfolded(self._sets)

    def sets(self):
        """Return the sets, in order."""
        return list(self._sets)

    def set_at(self, name, kind):
        """Return the set of a name and kind, None if there is none."""
        self._check_within(name)
        check_kind(kind)
        return self._set_at.get((name, kind))

    def has(self, name):
        """Return True if the zone has a name, otherwise False."""
        self._check_within(name)
        return name in self._names

    def names(self):
        """Return the names that the zone has, in order."""
        return in_order(list(self._names))

    def cuts(self):
        """Return the names below the apex with servers, in order."""
        return _cuts_of(self._apex, self._sets)

    def trees(self):
        """Return the names with a tree, in order."""
        return [name for name, kind, _, _ in self._sets if kind == "tree"]

    def wilds(self):
        """Return the wild names that the zone has, in order."""
        return [name for name in self.names() if name[:1] == (WILD,)]

    def nearest(self, name):
        """Return the nearest name, at or above one, that the zone has."""
        self._check_within(name)
        found = name
        while found not in self._names:
            found = found[1:]
        return found

    def with_records(self, records):
        """Return the zone with some records more."""
        return Zone(self._apex, self.records() + list(records))

    def without(self, records):
        """Return the zone without some of its records."""
        check_records(records)
        kept = {record: True for record in self.records()}
        for record in records:
            if record not in kept:
                raise Unfit(record)
        left = [record for record in kept if record not in records]
        return Zone(self._apex, left)

    def with_serial(self, serial):
        """Return the zone with another serial."""
        if not is_between(serial, 0, MOST_SERIAL):
            raise InvalidSerial(rebuilt(serial))
        return Zone(self._apex, [_with_serial(record, serial) for record in self.records()])

    def _check_within(self, name):
        check_name(name)
        if not ends_with(name, self._apex):
            raise OutOfZone(name)


def _cuts_of(apex, sets):
    return [name for name, kind, _, _ in sets if kind == "server" and name != apex]


def _names_had(apex, sets):
    """Return the names that a zone has: with records, not below a cut, and between these and the apex."""
    cuts = _cuts_of(apex, sets)
    names = {}
    for name in [entry[0] for entry in sets]:
        if not any([is_beneath(name, cut) for cut in cuts]):
            for steps in range(len(name) - len(apex) + 1):
                names[name[steps:]] = True
    return names


def _with_serial(record, serial):
    name, kind, age, data = record
    if kind != "start":
        return record
    return (name, kind, age, (data[0], serial) + data[2:])
