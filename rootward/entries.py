"""Entries of caches: what they are, which questions they answer, and which of them clash."""

from rootward.checks import is_moment
from rootward.labels import is_asked
from rootward.nameparts import ends_with, place
from rootward.records import are_datas, is_kind

PARTS = {"found": 5, "alias": 4, "empty": 4, "absent": 3}


def is_entry(value):
    """Return whether any object is an entry."""
    if not isinstance(value, tuple) or len(value) == 0 or not isinstance(value[0], str) or value[0] not in PARTS:
        return False
    if len(value) != PARTS[value[0]] or not is_asked(value[1]):
        return False
    if value[0] in ("alias", "absent"):
        return is_moment(value[2]) and (value[0] == "absent" or is_asked(value[3]))
    if not is_kind(value[2]) or not is_moment(value[3]):
        return False
    return value[0] == "empty" or are_datas(value[2], value[4])


def entry_of(name, kind, told):
    """Return the entry that what was told of a name and kind makes; told: (word, age) and what follows these."""
    if told[0] in ("alias", "absent"):
        return (told[0], name) + told[1:]
    return (told[0], name, kind) + told[1:]


def age_of(entry):
    """Return the age of an entry."""
    return entry[2] if entry[0] in ("alias", "absent") else entry[3]


def told_by(entry, left):
    """Return what an entry tells: its word, what is left, and what else there is."""
    rest = {"found": entry[4:], "alias": entry[3:], "empty": (), "absent": ()}
    return (entry[0], left) + rest[entry[0]]


def entry_answers(entry, name, kind):
    """Return whether an entry answers a question."""
    if entry[0] == "absent":
        return ends_with(name, entry[1])
    if entry[0] == "alias":
        return name == entry[1] and kind != "alias"
    return name == entry[1] and kind == entry[2]


def _asked_alike(entry, other):
    """Return whether there is a question that both of two entries answer, not both absent."""
    if entry[0] == "absent":
        return ends_with(other[1], entry[1])
    if other[0] == "absent":
        return ends_with(entry[1], other[1])
    if entry[1] != other[1]:
        return False
    if entry[0] == "alias" or other[0] == "alias":
        kinds = [one[2] for one in (entry, other) if one[0] != "alias"]
        return "alias" not in kinds
    return entry[2] == other[2]


def entries_clash(entry, other):
    """Return whether two entries answer some question, unlike but for the ages."""
    return told_by(entry, 0) != told_by(other, 0) and _asked_alike(entry, other)


def same_questions(entry, other):
    """Return whether two entries answer just the same questions."""
    return _scope(entry) == _scope(other)


def _scope(entry):
    """Return what decides which questions an entry answers."""
    return (entry[1], entry[0] if entry[0] in ("alias", "absent") else ("kind", entry[2]))


def entry_place(entry):
    """Return what living entries are ordered by: names, then alias and absent ahead of the kinds."""
    if entry[0] in ("alias", "absent"):
        return (place(entry[1]), 0 if entry[0] == "alias" else 1, "")
    return (place(entry[1]), 2, entry[2])


def life_under(policy, age):
    """Return the life under a policy of an entry with an age."""
    floor, ceiling = policy
    return 0 if age == 0 else min(ceiling, max(age, floor))
