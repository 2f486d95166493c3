"""A second, slow reading of zones and answers, straight from the document and written apart from the program."""


def under(name, other):
    return any([name[cut:] == other for cut in range(len(name) + 1)])


def beneath(name, other):
    return name != other and under(name, other)


def faults(apex, records):
    """All faults, in no order."""
    kinds_at = {}
    for name, kind, _, data in set(records):
        kinds_at.setdefault(name, []).append(kind)
    cuts = [name for name, kinds in kinds_at.items() if name != apex and "server" in kinds]
    trees = [name for name, kinds in kinds_at.items() if "tree" in kinds]
    found = set()
    for name, kinds in kinds_at.items():
        if kinds.count("alias") > 1 or ("alias" in kinds and set(kinds) != {"alias"}):
            found.add((name, "alias"))
        if [cut for cut in cuts if beneath(name, cut)] and set(kinds) != {"addr"}:
            found.add((name, "beneath cut"))
        if [tree for tree in trees if beneath(name, tree)]:
            found.add((name, "beneath tree"))
        if name in cuts and set(kinds) - {"addr", "server"}:
            found.add((name, "cut"))
        if "start" in kinds and (name != apex or kinds.count("start") > 1):
            found.add((name, "start"))
        if kinds.count("tree") > 1:
            found.add((name, "tree"))
        if name and name[0] == "*" and ("server" in kinds or "tree" in kinds):
            found.add((name, "wild"))
    for kind in ["server", "start"]:
        if kind not in kinds_at.get(apex, []):
            found.add((apex, "no " + kind))
    return found


def names_of_zone(apex, records):
    """The names that a zone has, in no order."""
    cuts = [record[0] for record in records if record[1] == "server" and record[0] != apex]
    found = set()
    for record in records:
        if not [cut for cut in cuts if beneath(record[0], cut)]:
            name = record[0]
            while name != apex:
                found.add(name)
                name = name[1:]
    return found | {apex}


def rows(records, name, kind):
    """The age of a set and its data, None without it."""
    found = [record for record in records if record[:2] == (name, kind)]
    return (found[0][2], tuple([record[3] for record in found])) if found else None


def answer(apex, records, name, kind):
    """The answer of a zone with some records, in order, to a name and a kind."""
    start = [record for record in records if record[1] == "start"][0]
    lesser = min(start[2], start[3][5])
    for cut in [record[0] for record in records if record[1] == "server" and record[0] != apex]:
        if under(name, cut):
            age, servers = rows(records, cut, "server")
            told = [(server, rows(records, server, "addr")) for server in servers if under(server, cut)]
            return ("cut", age, cut, servers, tuple([(server,) + found for server, found in told if found]))
    for owner, _, age, target in [record for record in records if record[1] == "tree"]:
        if beneath(name, owner):
            return ("tree", age, owner, name[:len(name) - len(owner)] + target)
    there = names_of_zone(apex, records)
    owner = name
    if name not in there:
        nearest = name
        while nearest not in there:
            nearest = nearest[1:]
        owner = ("*",) + nearest
        if owner not in there:
            return ("absent", lesser)
    if rows(records, owner, kind):
        return ("found",) + rows(records, owner, kind)
    if rows(records, owner, "alias"):
        age, targets = rows(records, owner, "alias")
        return ("alias", age, targets[0])
    return ("empty", lesser)


def size(name):
    return 1 + len("".join([label + "." for label in name]))


def chase(apex, records, name, kind):
    """The names and answers of a chase, and how it ends."""
    found = []
    while True:
        found.append((name, answer(apex, records, name, kind)))
        if found[-1][1][0] not in ("alias", "tree"):
            return found, ("told", name)
        name = found[-1][1][-1]
        if not under(name, apex):
            return found, ("outside", name)
        if size(name) > 255 or len(found) == 100:
            return found, ("long", name)
        if name in [step[0] for step in found]:
            return found, ("ring", name)
