"""Gaps of zones: what they stand over, and which of a zone show what it answers."""

from rootward.answers import answer, source
from rootward.errors import OutOfZone
from rootward.labels import WILD, check_asked, common
from rootward.nameparts import ends_with, in_order, is_beneath, place


def gaps_by_name(zone):
    """Return the gaps of a zone by their names, in order."""
    kinds = {name: [] for name in zone.names()}
    for name, kind, _, _ in zone.sets():
        if name in kinds:
            kinds[name].append(kind)
    names = list(kinds)
    behind = names[1:] + [zone.apex]
    return {name: (name, end, tuple(kinds[name])) for name, end in zip(names, behind)}


def hides_below(gap, apex):
    """Return whether what is below the name of a gap is moved away or belongs to another zone."""
    return "tree" in gap[2] or ("server" in gap[2] and gap[0] != apex)


def stands_over(gap, apex, name):
    """Return whether a gap of a zone with an apex stands over a name."""
    start, end, _ = gap
    if place(name) <= place(start):
        return False
    if end != apex and place(name) >= place(end):
        return False
    return not (is_beneath(name, start) and hides_below(gap, apex))


def nearest_by(gap, name):
    """Return the nearest name that is there above a name over which a gap stands."""
    one, other = common(name, gap[0]), common(name, gap[1])
    return one if len(one) > len(other) else other


def has_none(gap, kind):
    """Return whether the name of a gap has neither a kind nor an alias."""
    return kind not in gap[2] and "alias" not in gap[2]


def check_asked_in(apex, name):
    """Raise an error if any object is no name without `*`, at or below an apex."""
    check_asked(name)
    if not ends_with(name, apex):
        raise OutOfZone(name)


def names_showing(zone, names, name, kind):
    """Return the names, in order, of the gaps by which a zone shows that a kind is absent or empty, None if it is not.

    The names are those that the zone has, in order. Behind a name `*` is ahead of all other labels, so the gap over a
    wild name that the zone does not have is that of the name above."""
    word = answer(zone, name, kind)[0]
    if word not in ("absent", "empty"):
        return None
    decided, owner = source(zone, name)
    if decided == "own":
        return [name]
    ahead = [other for other in names if place(other) < place(name)]
    return in_order(list({ahead[-1]: True, owner: True}))


def wild_below(name):
    """Return the wild name right below a name."""
    return (WILD,) + name
