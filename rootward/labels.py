"""Labels and names: what they are, their texts, their order, and how many there are."""

from rootward.errors import InvalidLabel, InvalidName, InvalidNumber, OutOfZone, Unreadable
from rootward.nameparts import ends_with, in_order, place, sized_place, weight
from rootward.values import rebuilt

WILD = "*"
LONGEST = 20
# In the order of texts, so that labels of one length are numbers with these digits.
ENDS = "0123456789abcdefghijklmnopqrstuvwxyz"
INNER = "-0123456789abcdefghijklmnopqrstuvwxyz"


def is_label(value):
    """Return whether any object is a label."""
    if not isinstance(value, str):
        return False
    return value == WILD or _is_plain(value)


def _is_plain(text):
    if not 1 <= len(text) <= LONGEST:
        return False
    # Nothing is left of a text of which all signs are stripped.
    return text.strip(INNER) == "" and text[0] in ENDS and text[-1] in ENDS


def is_name(value):
    """Return whether any object is a name."""
    if not isinstance(value, tuple):
        return False
    return is_asked(value[1:] if value[:1] == (WILD,) else value)


def is_asked(value):
    """Return whether any object is a name without `*`."""
    return isinstance(value, tuple) and all([isinstance(label, str) and _is_plain(label) for label in value])


def check_name(name):
    """Raise InvalidName if any object is no name."""
    if not is_name(name):
        raise InvalidName(rebuilt(name))


def check_asked(name):
    """Raise InvalidName if any object is no name without `*`."""
    if not is_asked(name):
        raise InvalidName(rebuilt(name))


def check_names(names):
    """Raise InvalidName for the first of some objects that is no name."""
    for name in names:
        check_name(name)


def name_of(text):
    """Return the name of a text, or raise Unreadable."""
    if text == ".":
        return ()
    if not isinstance(text, str) or not text.endswith("."):
        raise Unreadable(rebuilt(text))
    name = tuple(text[:-1].split("."))
    if not is_name(name):
        raise Unreadable(text)
    return name


def show_name(name):
    """Return the text of a name."""
    check_name(name)
    if name == ():
        return "."
    return "".join([label + "." for label in name])


def is_under(name, other):
    """Return True if a name is at or below another one, otherwise False."""
    check_name(name)
    check_name(other)
    return ends_with(name, other)


def labels_ahead(name, other):
    """Return the labels that a name has ahead of those of another one that it is at or below."""
    if not is_under(name, other):
        raise OutOfZone(name)
    return name[:len(name) - len(other)]


def common(one, other):
    """Return the name with most labels that two names are at or below."""
    check_name(one)
    check_name(other)
    shared = one
    while not ends_with(other, shared):
        shared = shared[1:]
    return shared


def compared(one, other):
    """Return -1, 0 or 1: a name is ahead of, is, is behind another one."""
    check_name(one)
    check_name(other)
    if one == other:
        return 0
    return -1 if place(one) < place(other) else 1


def ordered(names):
    """Return some names in their order, each once."""
    check_names(names)
    return in_order(list({name: True for name in names}))


def neighbours(names, name):
    """Return the last of some names that is not behind a name, and the first that is behind it."""
    check_names(names)
    check_name(name)
    ahead, behind = None, None
    for other in ordered(names):
        if place(other) <= place(name):
            ahead = other
        elif behind is None:
            behind = other
    return (ahead, behind)


def size(name):
    """Return the size of a name."""
    check_name(name)
    return weight(name)


def first(names):
    """Return the first of some names: of those with the least size the first in order."""
    check_names(names)
    return min(names, key=sized_place, default=None)


def labels_of(length):
    """Return the number of labels, other than `*`, of so many signs."""
    if length < 0:
        raise InvalidNumber(length)
    if length == 0 or length > LONGEST:
        return 0
    number = len(ENDS)
    if length > 1:
        number = number * len(ENDS)
    for _ in range(length - 2):
        number = number * len(INNER)
    return number


def names_of(size):
    """Return the number of names without `*` of a size."""
    if size < 0:
        raise InvalidNumber(size)
    return numbers_of_names(size)[size]


def numbers_of_names(most):
    """Return the numbers of names without `*` of all sizes from 0 to one."""
    many = [labels_of(length) for length in range(LONGEST + 1)]
    numbers = [0, 1]
    while len(numbers) <= most:
        room = len(numbers) - 1
        # The last label takes its length and 1 more, the labels ahead of it the rest.
        lengths = range(1, min(LONGEST, room) + 1)
        numbers.append(sum([many[length] * numbers[room - length] for length in lengths]))
    return numbers[:most + 1]


def nth_label(index):
    """Return the label with a number, of all but `*` by their lengths, then as texts."""
    if index < 0:
        raise InvalidNumber(index)
    rest = index
    for length in range(1, LONGEST + 1):
        if rest < labels_of(length):
            return _spelled(rest, length)
        rest = rest - labels_of(length)
    raise InvalidNumber(index)


def _spelled(index, length):
    if length == 1:
        return ENDS[index]
    rest, sign = divmod(index, len(ENDS))
    signs = [ENDS[sign]]
    for _ in range(length - 2):
        rest, sign = divmod(rest, len(INNER))
        signs.append(INNER[sign])
    signs.append(ENDS[rest])
    return "".join(signs[::-1])


def label_index(label):
    """Return the number of a label other than `*`."""
    if not is_label(label) or label == WILD:
        raise InvalidLabel(rebuilt(label))
    ahead = sum([labels_of(length) for length in range(1, len(label))])
    if len(label) == 1:
        return ENDS.index(label)
    index = ENDS.index(label[0])
    for sign in label[1:-1]:
        index = index * len(INNER) + INNER.index(sign)
    return ahead + index * len(ENDS) + ENDS.index(label[-1])


def label_but(labels):
    """Return the first label, by their numbers, that is not in a list, or no key of a dict."""
    index = 0
    while nth_label(index) in labels:
        index += 1
    return nth_label(index)
