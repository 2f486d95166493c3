"""Which names a zone answers with what, and where two zones answer unlike."""

from rootward.answers import answer, source
from rootward.errors import InvalidRecord, InvalidWord, OutOfZone
from rootward.labels import check_name
from rootward.nameparts import ends_with
from rootward.namesets import Names, count
from rootward.records import KINDS, check_kind, is_data
from rootward.rowtools import first_of, paired_told
from rootward.values import rebuilt
from rootward.zonerows import all_told_rows, source_rows, told_by, told_rows

WORDS = ("absent", "alias", "cut", "empty", "found", "tree")


def with_word(zone, kind, word):
    """Return the names whose answer for a kind has a word."""
    check_kind(kind)
    if word not in WORDS:
        raise InvalidWord(rebuilt(word))
    rows = told_rows(zone, kind)
    return Names([(told is not None and told[0] == word, roads, other) for told, roads, other in rows])


def found_with(zone, kind, data):
    """Return the names whose answer for a kind is found with a data among its datas."""
    if not is_data(kind, data):
        raise InvalidRecord(rebuilt(data))
    return Names([(_tells(told, data), roads, other) for told, roads, other in told_rows(zone, kind)])


def _tells(told, data):
    return told is not None and told[0] == "found" and data in told[2]


def by_wild(zone, name):
    """Return the names for which a wild name of a zone stands."""
    check_name(name)
    if not ends_with(name, zone.apex):
        raise OutOfZone(name)
    return Names([(decided == ("wild", name), roads, other) for decided, roads, other in source_rows(zone)])


def same_answers(zone, name, kind):
    """Return the names that have the answer of a name for a kind; of a tree its age and its owner count."""
    decided = source(zone, name)
    check_kind(kind)
    wanted = told_by(zone, decided, kind)
    return Names([(told == wanted, roads, other) for told, roads, other in told_rows(zone, kind)])


def counted(zone, kind, word, size):
    """Return how many names of a size have an answer for a kind with a word."""
    return count(with_word(zone, kind, word), size)


def first_unlike(one, other):
    """Return the first name with unlike answers of two zones, the first such kind and the answers, None without any."""
    name = _first_name_unlike(one, other)
    if name is None:
        return None
    kinds = [kind for kind in KINDS if answer(one, name, kind) != answer(other, name, kind)]
    return (name, kinds[0], answer(one, name, kinds[0]), answer(other, name, kinds[0]))


def _first_name_unlike(one, other):
    if one.apex != other.apex:
        raise OutOfZone(other.apex)
    rows = paired_told(all_told_rows(one), all_told_rows(other))
    return first_of([(told != other_told, roads, behind) for (told, other_told), roads, behind in rows])


def are_alike(one, other):
    """Return True if two zones have the same answers to all names, otherwise False."""
    return _first_name_unlike(one, other) is None


def needless(zone):
    """Return the records of which each one, taken out alone, leaves a zone that is alike.

    These are just the addrs at and below cuts that are no glue. Any other record is told to its own name, or to
    names that no zone writes down and for which its wild name stands, as there always are some. If the name goes
    with its record, the names below it and the name itself can't both be answered as they were: either a wild name
    above stands for all of them then, or none does."""
    glue = {}
    for cut in zone.cuts():
        for server in zone.set_at(cut, "server")[3]:
            glue[(cut, server)] = True
    return [record for record in zone.records() if _is_needless(zone, glue, record)]


def _is_needless(zone, glue, record):
    name, kind = record[:2]
    return kind == "addr" and any([ends_with(name, cut) and (cut, name) not in glue for cut in zone.cuts()])


def lean(zone):
    """Return the zone out of which the last needless record was taken, again and again."""
    # Whether a record is needless does not hang on the needless ones, so all may go at once.
    return zone.without(needless(zone))
