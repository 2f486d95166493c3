"""Conditions and deeds of changes, and what they tell and do of a book of records."""

from rootward.errors import InvalidDeed
from rootward.labels import is_name
from rootward.records import are_datas, datas_in_order, is_data, is_kind, is_record, key_place, sets_of
from rootward.values import rebuilt


def are_parts(value):
    """Return whether any object is a tuple of two lists."""
    if not isinstance(value, tuple) or len(value) != 2:
        return False
    return isinstance(value[0], list) and isinstance(value[1], list)


def wrong_entries(change):
    """Return a list of the first condition, or else the first deed, that is none; an empty one if all are."""
    wrong = [entry for entry in change[0] if not _is_condition(entry)]
    wrong.extend([entry for entry in change[1] if not _is_deed(entry)])
    return wrong[:1]


def _is_condition(value):
    if not isinstance(value, tuple) or not 2 <= len(value) <= 4 or not is_name(value[1]):
        return False
    word, rest = value[0], value[2:]
    if len(rest) == 0:
        return word in ("there", "free")
    if not is_kind(rest[0]):
        return False
    if len(rest) == 1:
        return word in ("has", "lacks")
    return word == "just" and are_datas(rest[0], rest[1])


def _is_deed(value):
    if not isinstance(value, tuple) or len(value) < 2:
        return False
    word, rest = value[0], value[1:]
    if len(rest) == 1:
        return (word == "add" and is_record(rest[0])) or (word == "drop" and is_name(rest[0]))
    if not is_name(rest[0]) or not is_kind(rest[1]):
        return False
    if len(rest) == 2:
        return word == "clear"
    return len(rest) == 3 and word == "take" and is_data(rest[1], rest[2])


def check_change(change):
    """Raise InvalidDeed for the first condition, then the first deed, of a change that is none."""
    if not are_parts(change):
        raise InvalidDeed(rebuilt(change))
    wrong = wrong_entries(change)
    if len(wrong) > 0:
        raise InvalidDeed(rebuilt(wrong[0]))


def book_of(records):
    """Return a book: by names and kinds a tuple of the age and the ascending datas of each set."""
    return book_of_sets(sets_of(records))


def book_of_sets(sets):
    """Return the book of some sets."""
    return {(name, kind): (age, datas) for name, kind, age, datas in sets}


def sets_in(book):
    """Return the sets of a book, in order."""
    return [key + book[key] for key in sorted(book, key=key_place)]


def holds_all(book, conditions):
    """Return whether all of some conditions hold for a book."""
    return all([_holds(book, condition) for condition in conditions])


def _holds(book, condition):
    word, name = condition[:2]
    if word in ("there", "free"):
        return any([key[0] == name for key in book]) == (word == "there")
    found = book.get((name, condition[2]))
    if word == "just":
        return found is not None and found[1] == condition[3]
    return (found is not None) == (word == "has")


def _done(book, deed):
    """Return the book behind a deed."""
    if deed[0] == "add":
        return _added(book, deed[1])
    if deed[0] == "drop":
        return {key: entry for key, entry in book.items() if key[0] != deed[1]}
    left = {key: entry for key, entry in book.items() if key != deed[1:3]}
    if deed[0] == "take" and deed[1:3] in book:
        age, datas = book[deed[1:3]]
        datas = tuple([data for data in datas if data != deed[3]])
        if len(datas) > 0:
            left[deed[1:3]] = (age, datas)
    return left


def _added(book, record):
    """Return the book with a record, whose age all records of its set have then."""
    name, kind, age, data = record
    ahead = book.get((name, kind), (age, ()))[1]
    datas = ahead if data in ahead else datas_in_order(kind, ahead + (data,))
    found = {key: entry for key, entry in book.items()}
    found[(name, kind)] = (age, datas)
    return found


def book_behind(book, change):
    """Return the book behind a change."""
    if not holds_all(book, change[0]):
        return book
    for deed in change[1]:
        book = _done(book, deed)
    return book
