"""Books of fewest records at which changes do what is asked for.

Of a set only the data that the changes tell of matter, and whether it has any other one; of all other kinds at a name
only whether one of them is there. No condition looks at ages, so an age that no deed gives parts as much as any can.
Hence a book of few enough sets and data, that are gone through name by name, is as short as any."""

from rootward.labels import nth_label
from rootward.records import KINDS, NAMING

# How a need stands where some sets of a name are known: fails, holds, or holds with a set behind its deeds.
FAILS = 0
HOLDS = 1
OCCUPIED = 2


def cells_of(changes):
    """Return a dict: to each name of some changes a dict: to each kind there the list of its data."""
    cells = {}
    for conditions, deeds in changes:
        for entry in conditions + deeds:
            name, kinds, datas = _told_by(entry)
            found = cells.setdefault(name, {})
            for kind in kinds:
                found[kind] = found.get(kind, []) + [data for data in datas if data not in found.get(kind, [])]
    return {name: _with_others(kinds) for name, kinds in cells.items()}


def _with_others(kinds):
    """Return the kinds at a name with their data, and with another kind, if there is one, and other data of each."""
    spare = {kind: [] for kind in [other for other in KINDS if other not in kinds][:1]}
    return {kind: datas + [_other_data(kind, datas)] for kind, datas in list(kinds.items()) + list(spare.items())}


def _told_by(entry):
    """Return the name of a condition or a deed, the list of its kind, if it has one, and the tuple of its data."""
    if entry[0] == "add":
        name, kind, _, data = entry[1]
        return (name, [kind], (data,))
    if entry[0] == "just":
        return (entry[1], [entry[2]], entry[3])
    return (entry[1], list(entry[2:3]), entry[3:])


def _other_data(kind, datas):
    """Return data of a kind that are not in a list."""
    index = 0
    while _nth_data(kind, index) in datas:
        index += 1
    return _nth_data(kind, index)


def _nth_data(kind, index):
    if kind in NAMING:
        return (nth_label(index),)
    if kind == "mail":
        return (index, ())
    if kind == "start":
        return ((), index, 0, 0, 0, 0)
    return str(index) if kind == "text" else index


def other_age(changes):
    """Return an age that no deed of some changes gives."""
    ages = [deed[1][2] for _, deeds in changes for deed in deeds if deed[0] == "add"]
    age = 0
    while age in ages:
        age += 1
    return age


def cheapest(cells, needs, ends):
    """Return the tuples (name, kind, datas) of the sets of a book of fewest records, None if there is no such book.

    A need is a tuple (conditions, deeds, wanted): whether all conditions hold behind the deeds. Ends are None, or two
    lists of deeds that have to leave other sets."""
    plans = {(tuple([HOLDS for _ in needs]), ends is None): (0, ())}
    for name, kinds in cells.items():
        plans = _joined(plans, _plans_at(name, kinds, needs, ends))
    wanted = tuple([HOLDS if want else FAILS for _, _, want in needs])
    return list(plans[(wanted, True)][1]) if (wanted, True) in plans else None


def _is_better(plans, key, cost):
    """Return whether a cost is less than that of the plan of a key, of plans told as tuples (cost, chosen sets)."""
    return key not in plans or cost < plans[key][0]


def _joined(plans, others):
    """Return the plans for two parts of a book together."""
    found = {}
    for (stands, differs), (cost, chosen) in plans.items():
        for (other_stands, other_differs), (other_cost, other_chosen) in others.items():
            both = tuple([_both(one, other) for one, other in zip(stands, other_stands)])
            key = (both, differs or other_differs)
            if _is_better(found, key, cost + other_cost):
                found[key] = (cost + other_cost, chosen + other_chosen)
    return found


def _both(one, other):
    return FAILS if one == FAILS or other == FAILS else max(one, other)


def _plans_at(name, kinds, needs, ends):
    """Return the cheapest plans for the sets at a name."""
    words = [_words_of(name, conditions) for conditions, _, _ in needs]
    plans = {(tuple([HOLDS for _ in needs]), False): (0, ())}
    for kind, datas in kinds.items():
        plans = _joined(plans, _plans_of((name, kind), datas, needs, ends, words))
    found = {}
    for (stands, differs), (cost, chosen) in plans.items():
        settled = tuple([_settled(stand, told) for stand, told in zip(stands, words)])
        if not _is_lost(settled, needs) and _is_better(found, (settled, differs), cost):
            found[(settled, differs)] = (cost, chosen)
    return found


def _words_of(name, conditions):
    """Return the words of the conditions that look at all sets at a name."""
    return [entry[0] for entry in conditions if entry[0] in ("there", "free") and entry[1] == name]


def _settled(stand, words):
    """Return how a need stands at a name of which all sets are known."""
    if stand == FAILS or ("there" in words and stand != OCCUPIED) or ("free" in words and stand == OCCUPIED):
        return FAILS
    return HOLDS


def _is_lost(stands, needs):
    """Return whether a need fails that has to hold."""
    return any([stand == FAILS and want for stand, (_, _, want) in zip(stands, needs)])


def _plans_of(cell, datas, needs, ends, words):
    """Return the cheapest plans for one set; its data are told by bits."""
    effects = [_effect(cell, datas, deeds) for _, deeds, _ in needs]
    allowed = [_allowed(cell, datas, conditions) for conditions, _, _ in needs]
    parted = [] if ends is None else [_effect(cell, datas, deeds) for deeds in ends]
    found = {}
    for bits in range(1 << len(datas)):
        stands = []
        for effect, fitting, told in zip(effects, allowed, words):
            left = _behind(effect, bits)[0]
            stand = OCCUPIED if left > 0 and len(told) > 0 else HOLDS
            stands.append(stand if fitting[left] else FAILS)
        differs = len(parted) > 0 and _behind(parted[0], bits) != _behind(parted[1], bits)
        chosen = tuple([data for at, data in enumerate(datas) if bits >> at & 1 == 1])
        key = (tuple(stands), differs)
        if not _is_lost(stands, needs) and _is_better(found, key, len(chosen)):
            found[key] = (len(chosen), (cell + (chosen,),) if bits > 0 else ())
    return found


def _effect(cell, datas, deeds):
    """Return what deeds do to a set: the bits of the data that stay, of those put in, and the age, None if it stays."""
    everything = (1 << len(datas)) - 1
    kept, put, age = everything, 0, None
    for deed in deeds:
        if deed[0] == "add":
            if deed[1][:2] == cell:
                put = put | 1 << datas.index(deed[1][3])
                age = deed[1][2]
        elif deed[0] == "take":
            if deed[1:3] == cell:
                others = everything - (1 << datas.index(deed[3]))
                kept, put = kept & others, put & others
        elif deed == ("drop", cell[0]) or deed == ("clear",) + cell:
            kept, put, age = 0, 0, None
    return (kept, put, age)


def _behind(effect, bits):
    """Return the bits of the data of a set behind deeds, and its age if they give one."""
    kept, put, age = effect
    left = bits & kept | put
    return (left, age if left > 0 else None)


def _allowed(cell, datas, conditions):
    """Return a list: for the bits of the data of a set whether the conditions that look at it alone hold."""
    fitting = [True for _ in range(1 << len(datas))]
    for condition in conditions:
        if condition[1:3] == cell:
            bits = sum([1 << datas.index(data) for told in condition[3:] for data in told])
            for at in range(len(fitting)):
                fitting[at] = fitting[at] and _fits(condition[0], bits, at)
    return fitting


def _fits(word, wanted, bits):
    """Return whether a condition of a word holds for a set with some data; of just they are wanted."""
    if word == "just":
        return bits == wanted
    return (bits > 0) == (word == "has")
