"""What a zone answers to a name and a kind, and where its aliases and trees lead to."""

from rootward.errors import OutOfZone
from rootward.labels import WILD, check_asked
from rootward.nameparts import ends_with, exchanged, is_beneath, weight
from rootward.records import KINDS, check_kind, each_once

LONGEST_CHASE = 100
GREATEST_SIZE = 255
ABSENT_STATUS = 3


def source(zone, name):
    """Return what of a zone decides about a name."""
    _check_asked_of(zone, name)
    return _source(zone, name)


def _check_asked_of(zone, name):
    check_asked(name)
    if not ends_with(name, zone.apex):
        raise OutOfZone(name)


def _check_question(zone, name, kind):
    _check_asked_of(zone, name)
    check_kind(kind)


def _source(zone, name):
    for cut in zone.cuts():
        if ends_with(name, cut):
            return ("cut", cut)
    for owner in zone.trees():
        if is_beneath(name, owner):
            return ("tree", owner)
    nearest = zone.nearest(name)
    if nearest == name:
        return ("own", name)
    wild = (WILD,) + nearest
    return ("wild", wild) if zone.has(wild) else ("none", nearest)


def answer(zone, name, kind):
    """Return the answer of a zone to a name and a kind."""
    _check_question(zone, name, kind)
    return answer_from(zone, name, kind, _source(zone, name))


def answers(zone, name):
    """Return the answers of a zone to a name and each kind, by kinds as texts."""
    _check_asked_of(zone, name)
    decided = _source(zone, name)
    return [answer_from(zone, name, kind, decided) for kind in KINDS]


def answer_from(zone, name, kind, decided):
    """Return the answer of a zone to a name and a kind of which it is known what decides."""
    word, place = decided
    if word == "cut":
        return _cut_answer(zone, place)
    if word == "tree":
        _, _, age, targets = zone.set_at(place, "tree")
        return ("tree", age, place, exchanged(name, place, targets[0]))
    if word == "none":
        return ("absent", zone.absent_age)
    return _answer_at(zone, place, kind)


def _cut_answer(zone, cut):
    _, _, age, servers = zone.set_at(cut, "server")
    within = [server for server in servers if ends_with(server, cut)]
    addrs = [zone.set_at(server, "addr") for server in within]
    glue = tuple([(entry[0], entry[2], entry[3]) for entry in addrs if entry is not None])
    return ("cut", age, cut, servers, glue)


def _answer_at(zone, owner, kind):
    """Return the answer by the records of a name that the zone has."""
    found = zone.set_at(owner, kind)
    if found is not None:
        return ("found", found[2], found[3])
    alias = zone.set_at(owner, "alias")
    if alias is not None:
        return ("alias", alias[2], alias[3][0])
    return ("empty", zone.absent_age)


def chase(zone, name, kind):
    """Return the tuples (name, answer) that come if aliases and trees are followed."""
    _check_question(zone, name, kind)
    return _chased(zone, name, kind)[0]


def chase_end(zone, name, kind):
    """Return how a chase ends, and the last name, or the one that is not asked for any more."""
    _check_question(zone, name, kind)
    return _chased(zone, name, kind)[1:]


def chase_age(zone, name, kind):
    """Return the least of the ages of the answers of a chase."""
    _check_question(zone, name, kind)
    return min([told[1] for _, told in _chased(zone, name, kind)[0]])


def _chased(zone, name, kind):
    """Return the list of the steps of a chase, the word of its end, and the name of that."""
    asked = {}
    while True:
        told = answer_from(zone, name, kind, _source(zone, name))
        asked[name] = told
        if told[0] != "alias" and told[0] != "tree":
            return (list(asked.items()), "told", name)
        name = told[-1]
        word = _stop_word(zone, asked, name)
        if word is not None:
            return (list(asked.items()), word, name)


def _stop_word(zone, asked, name):
    """Return why the next name of a chase is not asked for, None if it is."""
    if not ends_with(name, zone.apex):
        return "outside"
    if weight(name) > GREATEST_SIZE or len(asked) >= LONGEST_CHASE:
        return "long"
    return "ring" if name in asked else None


def reply(zone, name, kind):
    """Return the reply to a question: a status, and the records of answers, above and beside."""
    _check_question(zone, name, kind)
    steps = _chased(zone, name, kind)[0]
    told = []
    for owner, step in steps:
        told.extend(_records_told(zone, owner, kind, step))
    last = steps[-1][1]
    status = ABSENT_STATUS if last[0] == "absent" else 0
    return (status, each_once(told), _records_above(zone, last), _records_beside(last))


def _records_told(zone, name, kind, told):
    """Return the records that tell one answer of a chase."""
    word, age = told[:2]
    if word == "found":
        return [(name, kind, age, data) for data in told[2]]
    if word == "alias":
        return [(name, "alias", age, told[2])]
    if word == "tree":
        owner = told[2]
        return [(owner, "tree", age, zone.set_at(owner, "tree")[3][0])]
    return []


def _records_above(zone, told):
    """Return the start record behind an absent or empty answer, or the servers of a cut."""
    word, age = told[:2]
    if word == "cut":
        return [(told[2], "server", age, server) for server in told[3]]
    if word == "absent" or word == "empty":
        return [(zone.apex, "start", age, zone.set_at(zone.apex, "start")[3][0])]
    return []


def _records_beside(told):
    """Return the addr records of the glue of a cut."""
    if told[0] != "cut":
        return []
    return [(server, "addr", age, data) for server, age, datas in told[4] for data in datas]
