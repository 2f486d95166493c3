"""Kinds, data, records, and the sets of records with one name and kind."""

from rootward.errors import InvalidKind, InvalidRecord, UnlikeAges
from rootward.labels import check_asked, is_asked, is_name
from rootward.nameparts import ends_with, exchanged, place
from rootward.values import is_between, rebuilt

KINDS = ("addr", "alias", "back", "mail", "server", "start", "text", "tree")
# The kinds whose data are just a name.
NAMING = ("alias", "back", "server", "tree")
MOST_AGE = 2 ** 31 - 1
MOST_SERIAL = 2 ** 32 - 1
MOST_RANK = 65535
LONGEST_TEXT = 60
PERCENT = 37


def is_kind(value):
    """Return whether any object is a kind."""
    return isinstance(value, str) and value in KINDS


def check_kind(kind):
    """Raise InvalidKind if any object is no kind."""
    if not is_kind(kind):
        raise InvalidKind(rebuilt(kind))


def is_data(kind, value):
    """Return whether any object is the data of a kind."""
    check_kind(kind)
    if kind == "addr":
        return is_between(value, 0, MOST_SERIAL)
    if kind in NAMING:
        return is_asked(value)
    if kind == "mail":
        return _is_mail(value)
    if kind == "start":
        return _is_start(value)
    return _is_text(value)


def _is_mail(value):
    if not isinstance(value, tuple) or len(value) != 2:
        return False
    return is_between(value[0], 0, MOST_RANK) and is_asked(value[1])


def _is_start(value):
    if not isinstance(value, tuple) or len(value) != 6:
        return False
    if not is_asked(value[0]) or not is_between(value[1], 0, MOST_SERIAL):
        return False
    return all([is_between(number, 0, MOST_AGE) for number in value[2:]])


def _is_text(value):
    if not isinstance(value, str) or len(value) > LONGEST_TEXT:
        return False
    return all([" " <= sign <= "~" and ord(sign) != PERCENT for sign in value])


def is_record(value):
    """Return whether any object is a record."""
    if not isinstance(value, tuple) or len(value) != 4:
        return False
    name, kind, age, data = value
    return is_name(name) and is_kind(kind) and is_between(age, 0, MOST_AGE) and is_data(kind, data)


def are_datas(kind, value):
    """Return whether any object is an ascending tuple of data of a kind, not empty."""
    if not isinstance(value, tuple) or len(value) == 0 or not all([is_data(kind, data) for data in value]):
        return False
    return all([data_compared(kind, one, other) < 0 for one, other in zip(value, value[1:])])


def is_set(value):
    """Return whether any object is a set of records."""
    if not isinstance(value, tuple) or len(value) != 4:
        return False
    name, kind, age, datas = value
    return is_name(name) and is_kind(kind) and is_between(age, 0, MOST_AGE) and are_datas(kind, datas)


def check_record(record):
    """Raise InvalidRecord if any object is no record."""
    if not is_record(record):
        raise InvalidRecord(rebuilt(record))


def check_records(records):
    """Raise InvalidRecord for the first of some objects that is no record."""
    for record in records:
        check_record(record)


def data_compared(kind, one, other):
    """Return -1, 0 or 1: data of a kind are ahead of, are, are behind other ones."""
    check_kind(kind)
    if one == other:
        return 0
    return -1 if data_place(kind, one) < data_place(kind, other) else 1


def data_place(kind, data):
    """Return what data of a kind are compared by."""
    if kind in NAMING:
        return place(data)
    if kind == "mail":
        return (data[0], place(data[1]))
    if kind == "start":
        return (place(data[0]),) + data[1:]
    return data


def record_place(record):
    """Return what records are compared by."""
    name, kind, age, data = record
    return (place(name), kind, data_place(kind, data), age)


def key_place(key):
    """Return what names with their kinds are compared by."""
    name, kind = key
    return (place(name), kind)


def each_once(records):
    """Return some records in their sequence, each once."""
    return list({record: True for record in records})


def datas_in_order(kind, datas):
    """Return the ascending tuple of some unlike data of a kind."""
    return tuple([data for _, data in sorted([(data_place(kind, data), data) for data in datas])])


def sets_of(records):
    """Return the sets of some records, in order."""
    check_records(records)
    return sets_of_checked(records)


def sets_of_checked(records):
    """Return the sets of what is known to be records, in order."""
    ages, datas = {}, {}
    for name, kind, age, data in records:
        ages.setdefault((name, kind), {})[age] = True
        datas.setdefault((name, kind), {})[data] = True
    sets = []
    for key in sorted(ages, key=key_place):
        if len(ages[key]) > 1:
            raise UnlikeAges(key)
        sets.append(key + (list(ages[key])[0], datas_in_order(key[1], datas[key])))
    return sets


def records_of(sets):
    """Return the records of some sets, in order."""
    records = []
    for entry in sets:
        records.extend(_records_of_one(entry))
    return unfolded(sets_of(records))


def _records_of_one(entry):
    if not isinstance(entry, tuple) or len(entry) != 4 or not isinstance(entry[3], tuple):
        raise InvalidRecord(rebuilt(entry))
    return [entry[:3] + (data,) for data in entry[3]]


def unfolded(sets):
    """Return the records of sets that are in order."""
    return [(name, kind, age, data) for name, kind, age, datas in sets for data in datas]


def first_unlike(one, other):
    """Return the name and kind of the first set that is not the same in two lists, or None."""
    sets = {entry[:2]: entry for entry in sets_of(one)}
    other_sets = {entry[:2]: entry for entry in sets_of(other)}
    keys = {key: True for key in list(sets) + list(other_sets)}
    for key in sorted(keys, key=key_place):
        if sets.get(key) != other_sets.get(key):
            return key
    return None


def names_in(record):
    """Return the names in the data of a record: one, or none."""
    check_record(record)
    kind, data = record[1], record[3]
    if kind in NAMING:
        return [data]
    if kind == "mail":
        return [data[1]]
    if kind == "start":
        return [data[0]]
    return []


def put_below(records, old, new):
    """Return some records with the labels of a new name in place of those of an old one."""
    check_records(records)
    check_asked(old)
    check_asked(new)
    return each_once([_moved_record(record, old, new) for record in records])


def _moved_record(record, old, new):
    name, kind, age, data = record
    return (_moved(name, old, new), kind, age, _moved_data(kind, data, old, new))


def _moved_data(kind, data, old, new):
    if kind in NAMING:
        return _moved(data, old, new)
    if kind == "mail":
        return (data[0], _moved(data[1], old, new))
    if kind == "start":
        return (_moved(data[0], old, new),) + data[1:]
    return data


def _moved(name, old, new):
    return exchanged(name, old, new) if ends_with(name, old) else name
