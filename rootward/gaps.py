"""Gaps between the names of a zone, and what they show of names that are not there."""

from rootward.errors import InvalidGap, InvalidWord
from rootward.gapparts import (
    check_asked_in, gaps_by_name, has_none, names_showing, nearest_by, stands_over, wild_below)
from rootward.labels import check_asked, is_name
from rootward.nameparts import ends_with
from rootward.records import check_kind, is_kind
from rootward.values import rebuilt

WORDS = ("absent", "empty")


def gaps(zone):
    """Return the gaps of a zone, in order."""
    return list(gaps_by_name(zone).values())


def is_gap(value):
    """Return whether any object is a tuple of two names and an ascending tuple of kinds."""
    if not isinstance(value, tuple) or len(value) != 3:
        return False
    return is_name(value[0]) and is_name(value[1]) and _are_kinds(value[2])


def _are_kinds(value):
    if not isinstance(value, tuple) or not all([is_kind(kind) for kind in value]):
        return False
    return list(value) == sorted(set(value))


def _is_gap_in(apex, value):
    return is_gap(value) and ends_with(value[0], apex) and ends_with(value[1], apex)


def _check_gaps_in(apex, gaps):
    check_asked(apex)
    for gap in gaps:
        if not _is_gap_in(apex, gap):
            raise InvalidGap(rebuilt(gap))


def shown(apex, gaps, name, kind):
    """Return the word that some gaps of a zone with an apex show of a name and a kind, None if they show none."""
    _check_gaps_in(apex, gaps)
    check_asked_in(apex, name)
    check_kind(kind)
    return _shown(apex, gaps, name, kind)


def _shown(apex, gaps, name, kind):
    nearest = {nearest_by(gap, name): True for gap in gaps if stands_over(gap, apex, name)}
    wilds = [wild_below(other) for other in nearest]
    if any([stands_over(gap, apex, wild) for wild in wilds for gap in gaps]):
        return "absent"
    if any([_is_empty_at(gap, apex, name, kind) or (gap[0] in wilds and has_none(gap, kind)) for gap in gaps]):
        return "empty"
    return None


def _is_empty_at(gap, apex, name, kind):
    """Return whether a gap is that of a name that is answered by the zone itself, and has not the kind."""
    return gap[0] == name and has_none(gap, kind) and ("server" not in gap[2] or name == apex)


def showing(zone, name, kind):
    """Return the shortest list of gaps of a zone that shows its answer, None if that is neither absent nor empty."""
    found = gaps_by_name(zone)
    names = names_showing(zone, list(found), name, kind)
    return None if names is None else [found[other] for other in names]


def judge_showing(apex, word, name, kind, value):
    """Return whether any object is a list of gaps that show a word of a name and a kind."""
    check_asked(apex)
    if word not in WORDS:
        raise InvalidWord(rebuilt(word))
    check_asked_in(apex, name)
    check_kind(kind)
    if not isinstance(value, list) or not all([_is_gap_in(apex, gap) for gap in value]):
        return False
    return _shown(apex, value, name, kind) == word


def clash(apex, gaps):
    """Return the indexes of the first two gaps that no zone can have both, None if there are none."""
    _check_gaps_in(apex, gaps)
    for index, gap in enumerate(gaps):
        for other_index in range(index + 1, len(gaps)):
            if _clashes(apex, gap, gaps[other_index]):
                return (index, other_index)
    return None


def _clashes(apex, one, other):
    if one[0] == other[0]:
        return one != other
    return _stands_over_end(apex, one, other) or _stands_over_end(apex, other, one)


def _stands_over_end(apex, gap, other):
    """Return whether a gap stands over one of the two names of another one; none does over the apex."""
    return any([stands_over(gap, apex, name) for name in other[:2]])
