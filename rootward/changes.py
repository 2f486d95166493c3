"""Changes of books of records: conditions, deeds, and what stands behind them."""

from rootward.changeparts import are_parts, book_behind, book_of, check_change, holds_all, sets_in, wrong_entries
from rootward.records import key_place, unfolded
from rootward.serials import further
from rootward.zones import Zone


def is_change(value):
    """Return whether any object is a change."""
    return are_parts(value) and len(wrong_entries(value)) == 0


def applies(records, change):
    """Return True if all conditions of a change hold for a book of records, otherwise False."""
    book = book_of(records)
    check_change(change)
    return holds_all(book, change[0])


def changed(records, change):
    """Return the sets behind a change of a book of records."""
    book = book_of(records)
    check_change(change)
    return sets_in(book_behind(book, change))


def changed_zone(zone, change):
    """Return the zone behind a change; its serial is one further if other records than the start have changed."""
    check_change(change)
    sets = sets_in(book_behind(book_of(zone.records()), change))
    found = Zone(zone.apex, unfolded(sets))
    if sets == zone.sets() or found.set_at(zone.apex, "start") != zone.set_at(zone.apex, "start"):
        return found
    return found.with_serial(further(zone.serial, 1))


def back(records, change):
    """Return the change without conditions that leads back from the book behind a change."""
    book = book_of(records)
    check_change(change)
    behind = book_behind(book, change)
    deeds = []
    keys = {key: True for key in list(book) + list(behind)}
    for key in sorted(keys, key=key_place):
        if book.get(key) != behind.get(key):
            deeds.extend(_deeds_back(key, book.get(key), behind.get(key)))
    return ([], deeds)


def _deeds_back(key, entry, entry_behind):
    """Return the deeds that make a set, unlike behind a change, what it was ahead of it."""
    name, kind = key
    if entry is None:
        return [("clear", name, kind)]
    age, datas = entry
    age_behind, datas_behind = (None, ()) if entry_behind is None else entry_behind
    lacking = [data for data in datas if data not in datas_behind]
    if age != age_behind and len(lacking) == 0:
        lacking = [datas[0]]
    takes = [("take", name, kind, data) for data in datas_behind if data not in datas]
    return takes + [("add", (name, kind, age, data)) for data in lacking]
