"""Changes of books of records: conditions, deeds, and what stands behind them."""

from rootward.errors import InvalidDeed
from rootward.labels import is_name
from rootward.records import (
    data_compared, datas_in_order, is_data, is_kind, is_record, key_place, sets_of, unfolded)
from rootward.serials import further
from rootward.values import rebuilt
from rootward.zones import Zone


def is_change(value):
    """Return whether any object is a change."""
    return _are_parts(value) and _wrong_entry(value) is None


def _are_parts(value):
    if not isinstance(value, tuple) or len(value) != 2:
        return False
    return isinstance(value[0], list) and isinstance(value[1], list)


def _wrong_entry(change):
    """Return the list of the first condition, or else the first deed, that is none; None if all are."""
    wrong = [entry for entry in change[0] if not _is_condition(entry)]
    wrong.extend([entry for entry in change[1] if not _is_deed(entry)])
    return wrong[:1] if len(wrong) > 0 else None


def _is_condition(value):
    if not isinstance(value, tuple) or not 2 <= len(value) <= 4 or not is_name(value[1]):
        return False
    word, rest = value[0], value[2:]
    if len(rest) == 0:
        return word in ("there", "free")
    if not is_kind(rest[0]):
        return False
    if len(rest) == 1:
        return word in ("has", "lacks")
    return word == "just" and _are_datas(rest[0], rest[1])


def _are_datas(kind, value):
    """Return whether any object is an ascending tuple of data of a kind, not empty."""
    if not isinstance(value, tuple) or len(value) == 0 or not all([is_data(kind, data) for data in value]):
        return False
    return all([data_compared(kind, one, other) < 0 for one, other in zip(value, value[1:])])


def _is_deed(value):
    if not isinstance(value, tuple) or len(value) < 2:
        return False
    word, rest = value[0], value[1:]
    if len(rest) == 1:
        return (word == "add" and is_record(rest[0])) or (word == "drop" and is_name(rest[0]))
    if not is_name(rest[0]) or not is_kind(rest[1]):
        return False
    if len(rest) == 2:
        return word == "clear"
    return len(rest) == 3 and word == "take" and is_data(rest[1], rest[2])


def _book_of(records):
    """Return a book: by names and kinds a tuple of the age and the ascending datas of each set."""
    return {(name, kind): (age, datas) for name, kind, age, datas in sets_of(records)}


def _sets_in(book):
    """Return the sets of a book, in order."""
    return [key + book[key] for key in sorted(book, key=key_place)]


def _check_change(change):
    if not _are_parts(change):
        raise InvalidDeed(rebuilt(change))
    wrong = _wrong_entry(change)
    if wrong is not None:
        raise InvalidDeed(rebuilt(wrong[0]))


def _holds(book, condition):
    """Return whether a condition holds for a book."""
    word, name = condition[:2]
    if word in ("there", "free"):
        return any([key[0] == name for key in book]) == (word == "there")
    found = book.get((name, condition[2]))
    if word == "just":
        return found is not None and found[1] == condition[3]
    return (found is not None) == (word == "has")


def _done(book, deed):
    """Return the book behind a deed."""
    if deed[0] == "add":
        return _added(book, deed[1])
    if deed[0] == "drop":
        return {key: entry for key, entry in book.items() if key[0] != deed[1]}
    left = {key: entry for key, entry in book.items() if key != deed[1:3]}
    if deed[0] == "take" and deed[1:3] in book:
        age, datas = book[deed[1:3]]
        datas = tuple([data for data in datas if data != deed[3]])
        if len(datas) > 0:
            left[deed[1:3]] = (age, datas)
    return left


def _added(book, record):
    """Return the book with a record, whose age all records of its set have then."""
    name, kind, age, data = record
    ahead = book.get((name, kind), (age, ()))[1]
    datas = ahead if data in ahead else datas_in_order(kind, ahead + (data,))
    found = {key: entry for key, entry in book.items()}
    found[(name, kind)] = (age, datas)
    return found


def _behind(book, change):
    """Return the book behind a change."""
    if not all([_holds(book, condition) for condition in change[0]]):
        return book
    for deed in change[1]:
        book = _done(book, deed)
    return book


def applies(records, change):
    """Return True if all conditions of a change hold for a book of records, otherwise False."""
    book = _book_of(records)
    _check_change(change)
    return all([_holds(book, condition) for condition in change[0]])


def changed(records, change):
    """Return the sets behind a change of a book of records."""
    book = _book_of(records)
    _check_change(change)
    return _sets_in(_behind(book, change))


def changed_zone(zone, change):
    """Return the zone behind a change; its serial is one further if other records than the start have changed."""
    _check_change(change)
    sets = _sets_in(_behind(_book_of(zone.records()), change))
    found = Zone(zone.apex, unfolded(sets))
    if sets == zone.sets() or found.set_at(zone.apex, "start") != zone.set_at(zone.apex, "start"):
        return found
    return found.with_serial(further(zone.serial, 1))


def back(records, change):
    """Return the change without conditions that leads back from the book behind a change."""
    book = _book_of(records)
    _check_change(change)
    behind = _behind(book, change)
    deeds = []
    keys = {key: True for key in list(book) + list(behind)}
    for key in sorted(keys, key=key_place):
        if book.get(key) != behind.get(key):
            deeds.extend(_deeds_back(key, book.get(key), behind.get(key)))
    return ([], deeds)


def _deeds_back(key, entry, entry_behind):
    """Return the deeds that make a set, unlike behind a change, what it was ahead of it."""
    name, kind = key
    if entry is None:
        return [("clear", name, kind)]
    age, datas = entry
    age_behind, datas_behind = (None, ()) if entry_behind is None else entry_behind
    lacking = [data for data in datas if data not in datas_behind]
    if age != age_behind and len(lacking) == 0:
        lacking = [datas[0]]
    takes = [("take", name, kind, data) for data in datas_behind if data not in datas]
    return takes + [("add", (name, kind, age, data)) for data in lacking]
