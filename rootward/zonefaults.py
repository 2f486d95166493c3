"""Why some records are no zone's: the words of `faults`, name by name."""

from rootward.labels import WILD
from rootward.nameparts import is_beneath, place

AT_CUTS = ("addr", "server")


def zone_faults(apex, sets):
    """Return the faults of sets that are at or below an apex, as tuples (name, word), in order."""
    kinds_at = {}
    for name, kind, _, datas in sets:
        kinds_at.setdefault(name, {})[kind] = len(datas)
    cuts = [name for name in kinds_at if name != apex and "server" in kinds_at[name]]
    trees = [name for name in kinds_at if "tree" in kinds_at[name]]
    found = _faults_of_apex(apex, kinds_at.get(apex, {}))
    for name, kinds in kinds_at.items():
        found.extend([(name, word) for word in _faults_alone(name, kinds)])
        found.extend([(name, word) for word in _faults_by_others(name, kinds, cuts, trees)])
        if "start" in kinds and (name != apex or kinds["start"] > 1):
            found.append((name, "start"))
    return sorted(found, key=_fault_place)


def _fault_place(fault):
    name, word = fault
    return (place(name), word)


def _faults_of_apex(apex, kinds):
    return [(apex, "no " + kind) for kind in ("server", "start") if kind not in kinds]


def _faults_alone(name, kinds):
    """Return the words for what no name can have, wherever it stands; kinds with the numbers of their data."""
    words = []
    if "alias" in kinds and (len(kinds) > 1 or kinds["alias"] > 1):
        words.append("alias")
    if kinds.get("tree", 0) > 1:
        words.append("tree")
    if name[:1] == (WILD,) and ("server" in kinds or "tree" in kinds):
        words.append("wild")
    return words


def _faults_by_others(name, kinds, cuts, trees):
    """Return the words for what a name can't have by a cut or a tree at it or above it."""
    words = []
    if name in cuts and any([kind not in AT_CUTS for kind in kinds]):
        words.append("cut")
    if any([kind != "addr" for kind in kinds]) and any([is_beneath(name, cut) for cut in cuts]):
        words.append("beneath cut")
    if any([is_beneath(name, tree) for tree in trees]):
        words.append("beneath tree")
    return words
