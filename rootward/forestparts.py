"""Zones that hang on one another, told as a dict by their apexes: homes, chases, and the servers of zones."""

from rootward.answers import answer

MOST_NAMES = 25


def zones_by_apex(forest):
    """Return the dict of the zones of a forest by their apexes, in the order of these."""
    return {zone.apex: zone for zone in forest.zones}


def home_of(zones, name):
    """Return the longest apex at or above a name, which may have `*`."""
    ends = [name[steps:] for steps in range(len(name) + 1)]
    return [end for end in ends if end in zones][0]


def parent_of(zones, apex):
    """Return the apex of the parent of a zone, None of the root."""
    return None if apex == () else home_of(zones, apex[1:])


def chased(zones, name, kind):
    """Return the plain reading of a name and kind: how the chase ends, and its names."""
    names = [name]
    ages = []
    while True:
        told = answer(zones[home_of(zones, name)], name, kind)
        if told[0] == "cut":
            return (("broken", told[2]), names)
        ages.append(told[1])
        if told[0] not in ("alias", "tree"):
            return ((told[0], min(ages)) + told[2:], names)
        if len(names) == MOST_NAMES:
            return (("long",), names)
        name = told[-1]
        names.append(name)


def homes_of(zones, names):
    """Return the homes of some names in the order of names, each once."""
    found = {home_of(zones, name): True for name in names}
    return [apex for apex in zones if apex in found]


def cut_of(zones, apex):
    """Return the answer by which the parent of a zone tells its servers, None if it has no cut there."""
    if apex == () or zones[parent_of(zones, apex)].set_at(apex, "server") is None:
        return None
    return answer(zones[parent_of(zones, apex)], apex, "server")


def servers_of(zones, apex):
    """Return the tuples (server, has glue, known addresses, homes) of the servers of a zone, ascending.

    The homes are those on which a server without glue hangs."""
    cut = cut_of(zones, apex)
    if cut is None:
        return []
    glue = {server: datas for server, _, datas in cut[4]}
    found = []
    for server in cut[3]:
        if server in glue:
            found.append((server, True, glue[server], []))
        else:
            outcome, names = chased(zones, server, "addr")
            addresses = outcome[2] if outcome[0] == "found" else ()
            found.append((server, False, addresses, homes_of(zones, names)))
    return found
