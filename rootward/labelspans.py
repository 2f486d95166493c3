"""Labels of a length between two others, as texts, and names behind another one.

An end of a span of labels is a label, also `*`, or None: all labels are behind None as the lower end, and ahead of None
as the upper one. A span of names is a tuple (above, lower, upper): a name, and the ends between which the label lies
that names below it have right ahead of its labels."""

from rootward.labels import ENDS, INNER, LONGEST, WILD, labels_of, numbers_of_names
from rootward.nameparts import weight


def _signs_at(place, length):
    """Return the signs that a label of a length may have at a place, ascending."""
    return ENDS if place == 0 or place == length - 1 else INNER


def _ways_behind(place, length):
    """Return in how many ways a label of a length goes on from a place."""
    ways = 1
    for at in range(place, length):
        ways = ways * len(_signs_at(at, length))
    return ways


def _labels_behind(text, length):
    """Return the number of labels of a length behind another one."""
    if text is None or text == WILD:
        return labels_of(length)
    number = 0
    for place in range(min(len(text), length)):
        signs = [sign for sign in _signs_at(place, length) if sign > text[place]]
        number = number + len(signs) * _ways_behind(place + 1, length)
    if len(text) < length:
        number = number + _ways_behind(len(text), length)
    return number


def _labels_from(text, length):
    """Return the number of labels of a length that are another one, or behind it."""
    own = 1 if text != WILD and len(text) == length else 0
    return own + _labels_behind(text, length)


def _labels_within(lower, upper, length):
    """Return the number of labels of a length between two ends."""
    number = _labels_behind(lower, length)
    if upper is not None:
        number = number - _labels_from(upper, length)
    return max(0, number)


def _least_way(text, length):
    """Return the first label of a length, as texts, that begins with a text which is shorter."""
    signs = [_signs_at(place, length)[0] for place in range(len(text), length)]
    return text + "".join(signs)


def _label_behind(text, length):
    """Return the first label of a length, as texts, behind another one, None if there is none."""
    if text is None or text == WILD:
        return _least_way("", length)
    if len(text) < length:
        return _least_way(text, length)
    for place in range(length - 1, -1, -1):
        signs = [sign for sign in _signs_at(place, length) if sign > text[place]]
        if len(signs) > 0:
            return _least_way(text[:place] + signs[0], length)
    return None


def _shortest_within(lower, upper):
    """Return the label with the fewest signs between two ends, of several the first as texts, None if there is none."""
    for length in range(1, LONGEST + 1):
        label = _label_behind(lower, length)
        if label is not None and (upper is None or label < upper):
            return label
    return None


def count_in_spans(spans, size):
    """Return the number of names of a size in some spans, which have no name together."""
    numbers = numbers_of_names(size)
    found = 0
    for above, lower, upper in spans:
        for length in range(1, LONGEST + 1):
            # The labels ahead of the one between the ends have the rest of the size.
            rest = size - weight(above) - length
            if rest > 0:
                found = found + _labels_within(lower, upper, length) * numbers[rest]
    return found


def spans_behind(name):
    """Return the spans of all names without `*` behind a name, in their order."""
    spans = [] if name[:1] == (WILD,) else [(name, None, None)]
    return spans + [(name[many:], name[many - 1], None) for many in range(1, len(name) + 1)]


def first_in_span(span):
    """Return the first name in a span, None if there is none."""
    above, lower, upper = span
    label = _shortest_within(lower, upper)
    return None if label is None else (label,) + above
