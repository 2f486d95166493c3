"""Differences between zones, and journals of them: along which ones a zone comes from a serial to another one."""

from rootward.errors import InvalidDeed, InvalidNumber, InvalidSerial, OutOfZone, Unfit, Unreachable
from rootward.records import is_record, record_place
from rootward.serials import check_serial, is_serial
from rootward.values import rebuilt
from rootward.zones import Zone


def is_difference(value):
    """Return whether any object is a difference."""
    if not isinstance(value, tuple) or len(value) != 4:
        return False
    old, new, taken, added = value
    if not is_serial(old) or not is_serial(new) or not _are_in_order(taken) or not _are_in_order(added):
        return False
    return not any([record in added for record in taken])


def _are_in_order(value):
    """Return whether any object is a list of records in order, each once."""
    if not isinstance(value, list) or not all([is_record(record) for record in value]):
        return False
    places = [record_place(record) for record in value]
    return all([place < behind for place, behind in zip(places, places[1:])])


def _check_difference(value):
    if not is_difference(value):
        raise InvalidDeed(rebuilt(value))


def _check_journal(journal):
    for entry in journal:
        _check_difference(entry)


def difference(one, other):
    """Return the difference between two zones with one apex."""
    if one.apex != other.apex:
        raise OutOfZone(other.apex)
    records, other_records = _each(one.records()), _each(other.records())
    taken = [record for record in records if record not in other_records]
    return (one.serial, other.serial, taken, [record for record in other_records if record not in records])


def _each(records):
    return {record: True for record in records}


def brought(zone, difference):
    """Return a zone with a difference."""
    _check_difference(difference)
    return _brought(zone, difference)


def _brought(zone, entry):
    old, new, taken, added = entry
    if zone.serial != old:
        raise InvalidSerial(old)
    there = _each(zone.records())
    for record in taken:
        if record not in there:
            raise Unfit(record)
    for record in added:
        if record in there:
            raise Unfit(record)
    gone = _each(taken)
    found = Zone(zone.apex, [record for record in there if record not in gone] + added)
    if found.serial != new:
        raise InvalidSerial(new)
    return found


def turned_back(difference):
    """Return the difference that leads back."""
    _check_difference(difference)
    old, new, taken, added = difference
    return (new, old, list(added), list(taken))


def put_together(differences):
    """Return the difference that some differences, one after the other, come to."""
    if len(differences) == 0:
        raise InvalidNumber(0)
    _check_journal(differences)
    for entry, ahead in zip(differences[1:], differences):
        if entry[0] != ahead[1]:
            raise InvalidSerial(entry[0])
    # Whether each record that is told of was there ahead of all differences, and whether it is there behind them.
    was_there, is_there = {}, {}
    for entry in differences:
        for record, is_added in [(record, False) for record in entry[2]] + [(record, True) for record in entry[3]]:
            if is_there.get(record, not is_added) == is_added:
                raise Unfit(record)
            was_there.setdefault(record, not is_added)
            is_there[record] = is_added
    records = sorted(is_there, key=record_place)
    taken = [record for record in records if was_there[record] and not is_there[record]]
    added = [record for record in records if is_there[record] and not was_there[record]]
    return (differences[0][0], differences[-1][1], taken, added)


def chain(journal, old, new):
    """Return the indexes of the differences that lead from a serial to another one by as few records as any."""
    _check_journal(journal)
    check_serial(old)
    check_serial(new)
    return _chain(journal, old, new)


def _chain(journal, old, new):
    costs = _costs_to(journal, new)
    if old not in costs:
        return None
    indexes = []
    serial = old
    while serial != new:
        at = _first_of_best(journal, costs, serial)
        indexes.append(at)
        serial = journal[at][1]
    return indexes


def _first_of_best(journal, costs, serial):
    """Return the index of the first difference by which a best chain goes on from a serial."""
    for at, entry in enumerate(journal):
        if entry[0] == serial and entry[1] in costs and _cost_by(entry, costs) == costs[serial]:
            return at
    return None


def _costs_to(journal, new):
    """Return a dict: to each serial from which chains lead to one the records and the differences of a best chain."""
    costs = {new: (0, 0)}
    # No best chain comes to a serial twice, so it has at most as many differences as the journal.
    for _ in journal:
        for entry in journal:
            if entry[1] in costs:
                cost = _cost_by(entry, costs)
                costs[entry[0]] = min(cost, costs.get(entry[0], cost))
    return costs


def _cost_by(entry, costs):
    """Return the records and the differences of a best chain that begins with a difference."""
    records, many = costs[entry[1]]
    return (records + _number(entry), many + 1)


def _number(entry):
    """Return the number of the records of a difference."""
    return len(entry[2]) + len(entry[3])


def weight(journal, indexes):
    """Return the number of the records of the differences with some indexes."""
    _check_journal(journal)
    return sum([_number(journal[index]) for index in indexes])


def caught_up(zone, journal, new):
    """Return a zone brought along a best chain to a serial."""
    indexes = chain(journal, zone.serial, new)
    if indexes is None:
        raise Unreachable(new)
    found = zone
    for index in indexes:
        found = _brought(found, journal[index])
    return found


def is_cheaper(zone, journal, old):
    """Return True if a chain from a serial to that of a zone has fewer records than the zone, otherwise False."""
    indexes = chain(journal, old, zone.serial)
    return indexes is not None and weight(journal, indexes) < len(zone)
