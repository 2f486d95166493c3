"""Messages: questions, replies of zones, and what the answers of a message tell."""

from rootward.answers import chase, reply
from rootward.errors import InvalidMessage, InvalidNumber
from rootward.labels import check_asked, is_asked
from rootward.nameparts import ends_with, is_beneath, weight
from rootward.records import check_kind, datas_in_order, each_once, is_kind, is_record, record_place
from rootward.values import is_between, rebuilt

FLAGS = ("cut", "deep", "deeper", "reply", "sure")
MOST_NUMBER = 65535
MOST_STATUS = 15
NOT_ONE_QUESTION = 1
NOT_OF_ZONE = 5
LONGEST_CHASE = 100
GREATEST_SIZE = 255


def is_message(value):
    """Return whether any object is a message."""
    if not isinstance(value, tuple) or len(value) != 7:
        return False
    number, flags, status, questions = value[:4]
    if not is_between(number, 0, MOST_NUMBER) or not is_between(status, 0, MOST_STATUS) or not _are_flags(flags):
        return False
    return _are_questions(questions) and all([_are_records(part) for part in value[4:]])


def _are_flags(value):
    if not isinstance(value, tuple) or not all([flag in FLAGS for flag in value]):
        return False
    return all([flag < behind for flag, behind in zip(value, value[1:])])


def _are_questions(value):
    return isinstance(value, list) and all([_is_question(entry) for entry in value])


def _is_question(value):
    return isinstance(value, tuple) and len(value) == 2 and is_asked(value[0]) and is_kind(value[1])


def _are_records(value):
    return isinstance(value, list) and all([is_record(entry) for entry in value])


def check_message(message):
    """Raise InvalidMessage if any object is no message."""
    if not is_message(message):
        raise InvalidMessage(rebuilt(message))


def question(number, name, kind, is_deep):
    """Return the message that asks one question."""
    if not is_between(number, 0, MOST_NUMBER):
        raise InvalidNumber(rebuilt(number))
    check_asked(name)
    check_kind(kind)
    return (number, ("deep",) if is_deep else (), 0, [(name, kind)], [], [], [])


def replied(zone, message):
    """Return the reply of a zone to a message."""
    check_message(message)
    number, flags, _, questions = message[:4]
    kept = tuple([flag for flag in ("deep", "reply") if flag == "reply" or flag in flags])
    if len(questions) != 1:
        return (number, kept, NOT_ONE_QUESTION, list(questions), [], [], [])
    name, kind = questions[0]
    if not ends_with(name, zone.apex):
        return (number, kept, NOT_OF_ZONE, list(questions), [], [], [])
    status, answers, above, beside = reply(zone, name, kind)
    is_cut = chase(zone, name, kind)[-1][1][0] == "cut"
    return (number, kept if is_cut else kept + ("sure",), status, list(questions), answers, above, beside)


def records_of(message):
    """Return all records of a message, each once, in order."""
    check_message(message)
    return sorted(each_once(message[4] + message[5] + message[6]), key=record_place)


def told_of(message, name, kind):
    """Return the datas that the answers of a message tell for a name and a kind, None if they tell nothing."""
    check_message(message)
    check_asked(name)
    check_kind(kind)
    datas, aliases, trees = _told_in(message[4], kind)
    asked = {}
    while name not in asked and weight(name) <= GREATEST_SIZE and len(asked) < LONGEST_CHASE:
        if name in datas:
            return datas_in_order(kind, list(datas[name]))
        asked[name] = True
        name = _moved(aliases, trees, name)
        if name is None:
            return None
    return None


def _told_in(records, kind):
    """Return the data of a kind, the aliases and the trees that records tell, each by their names."""
    datas, aliases, trees = {}, {}, {}
    for name, own_kind, _, data in records:
        if own_kind == kind:
            datas.setdefault(name, {})[data] = True
        if own_kind == "alias":
            aliases.setdefault(name, data)
        if own_kind == "tree":
            trees.setdefault(name, data)
    return (datas, aliases, trees)


def _moved(aliases, trees, name):
    """Return the name to which aliases, or else the nearest tree above, lead; None if neither does."""
    if name in aliases:
        return aliases[name]
    owners = [owner for owner in trees if is_beneath(name, owner)]
    if len(owners) == 0:
        return None
    owner = max(owners, key=len)
    return name[:len(name) - len(owner)] + trees[owner]
