"""A zone as a machine that reads a name from its last label on."""

from rootward.answers import answer_from
from rootward.labels import WILD
from rootward.records import KINDS


def source_rows(zone):
    """Return rows (source, roads, other): what decides about the names that end their reading in a state.

    The source is as answers.py tells it, None for names that are not at or below the apex."""
    names = [name for name in zone.names() if name[:1] != (WILD,)]
    above = len(zone.apex)
    # Each name has two states: one for itself, one for the names below it that the zone does not have.
    states = {name: above + 2 * at for at, name in enumerate(names)}
    nowhere = above + 2 * len(names)
    roads = {name: [] for name in names}
    for name in names[1:]:
        roads[name[1:]].append((name[0], states[name]))
    own, rest = _sources_at(zone, names), _sources_below(zone, names)
    rows = [(None, [(label, step + 1)], nowhere) for step, label in enumerate(zone.apex[::-1])]
    for name in names:
        rows.append((own[name], roads[name], states[name] + 1))
        rows.append((rest[name], [], states[name] + 1))
    return rows + [(None, [], nowhere)]


def _sources_at(zone, names):
    """Return what decides about each of the names that a zone has."""
    cuts = {cut: True for cut in zone.cuts()}
    return {name: ("cut" if name in cuts else "own", name) for name in names}


def _sources_below(zone, names):
    """Return what decides, for each name that a zone has, about the names below it that it does not have."""
    sources = {name: ("none", name) for name in names}
    for wild in zone.wilds():
        sources[wild[1:]] = ("wild", wild)
    for cut in zone.cuts():
        sources[cut] = ("cut", cut)
    for owner in zone.trees():
        sources[owner] = ("tree", owner)
    return sources


def told_by(zone, decided, kind):
    """Return the answer to a kind where it is known what decides, None outside of the zone.

    The new name of a tree is told as its target, so that it is the same for all names."""
    if decided is None:
        return None
    return answer_from(zone, decided[1], kind, decided)


def told_rows(zone, kind):
    """Return rows (answer, roads, other) for a kind."""
    return [(told_by(zone, decided, kind), roads, other) for decided, roads, other in source_rows(zone)]


def all_told_rows(zone):
    """Return rows (answers, roads, other) for all kinds, by the kinds as texts."""
    rows = []
    for decided, roads, other in source_rows(zone):
        rows.append((tuple([told_by(zone, decided, kind) for kind in KINDS]), roads, other))
    return rows
