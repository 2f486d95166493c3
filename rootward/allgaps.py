"""Gaps and all names: which names lie between two, and which of a zone's some gaps do not show."""

from rootward.errors import InvalidGap, InvalidNumber
from rootward.gapparts import check_asked_in, gaps_by_name, has_none, hides_below, names_showing, wild_below
from rootward.labels import WILD, check_asked, check_name
from rootward.labelspans import first_of_size, shortest_within, span_counts, spans_behind
from rootward.nameparts import in_order, place, sized_place, weight
from rootward.records import check_kind
from rootward.values import rebuilt


def _check_ends(one, other):
    check_name(one)
    if other is not None:
        check_name(other)


def _are_apart(one, other):
    """Return whether there is any room behind a name and ahead of another one, or of the end."""
    return other is None or place(one) < place(other)


def first_between(one, other):
    """Return the first name without `*` between two names, or behind one, None if there is none."""
    _check_ends(one, other)
    above = one[1:] if one[:1] == (WILD,) else one
    next_one = ("0",) + above
    if not _are_apart(next_one, other):
        return None
    numbers = _counts_between(one, other, list(range(1, weight(next_one) + 1)))
    return first_of_size(spans_behind(one), min([size for size, number in numbers.items() if number > 0]))


def between(one, other, size):
    """Return how many names without `*` of a size there are between two names, or behind one."""
    _check_ends(one, other)
    if size < 0:
        raise InvalidNumber(size)
    if not _are_apart(one, other):
        return 0
    return _counts_between(one, other, [size])[size]


def _counts_between(one, other, sizes):
    """Return the numbers of names between a name and one behind it, or the end, by their sizes; of some sizes."""
    numbers = span_counts(spans_behind(one), sizes)
    if other is None:
        return numbers
    behind = span_counts(spans_behind(other), sizes)
    own = None if other[:1] == (WILD,) else weight(other)
    return {size: numbers[size] - behind[size] - (1 if size == own else 0) for size in sizes}


def _is_empty_itself(zone, gap, kind):
    """Return whether a gap's own name, being asked for a kind, is empty."""
    name, _, kinds = gap
    return name[:1] != (WILD,) and has_none(gap, kind) and ("server" not in kinds or name == zone.apex)


def _spans_over(apex, gap):
    """Return the spans of the names over which a gap of a zone stands: the names above are the nearest ones."""
    name, end, _ = gap
    spans = []
    for above, lower, _ in spans_behind(name):
        # All names of a zone but the apex stand right below another one.
        is_last = end != apex and end[1:] == above
        if above != name or not hides_below(gap, apex):
            spans.append((above, lower, end[0] if is_last else None))
        if is_last or above == apex:
            return spans
    return spans


def _also_needed(found, nearest, kind):
    """Return the name of the gap that shows there is nothing by a wild name below the nearest one, None if there is."""
    wild = wild_below(nearest)
    if wild not in found:
        return nearest
    return wild if has_none(found[wild], kind) else None


def _check_gaps_of(found, gaps):
    known = list(found.values())
    for gap in gaps:
        if gap not in known:
            raise InvalidGap(rebuilt(gap))


def first_untold(zone, gaps, kind):
    """Return the first name that is absent or empty and of which some gaps of a zone do not show it, None without."""
    found = gaps_by_name(zone)
    _check_gaps_of(found, gaps)
    check_kind(kind)
    passed = {gap[0]: True for gap in gaps}
    names = []
    for name, gap in found.items():
        if _is_empty_itself(zone, gap, kind) and name not in passed:
            names.append(name)
        for span in _spans_over(zone.apex, gap):
            needed = _also_needed(found, span[0], kind)
            if needed is not None and (name not in passed or needed not in passed):
                names.append(_first_in_span(span))
    return min([name for name in names if name is not None], key=sized_place, default=None)


def _first_in_span(span):
    """Return the first name in a span, None if there is none."""
    above, lower, upper = span
    label = shortest_within(lower, upper)
    return None if label is None else (label,) + above


def told(zone, gaps, kind, size):
    """Return of how many names of a size some gaps of a zone show that they are absent or empty."""
    found = gaps_by_name(zone)
    _check_gaps_of(found, gaps)
    check_kind(kind)
    if size < 0:
        raise InvalidNumber(size)
    passed = {gap[0]: True for gap in gaps}
    own = [name for name in passed if weight(name) == size and _is_empty_itself(zone, found[name], kind)]
    spans = []
    for name in passed:
        for span in _spans_over(zone.apex, found[name]):
            if _also_needed(found, span[0], kind) in passed:
                spans.append(span)
    return len(own) + span_counts(spans, [size])[size]


def fewest(zone, names, kind):
    """Return the shortest list of gaps of a zone that shows absent or empty of all of some names that are."""
    for name in names:
        check_asked(name)
    for name in names:
        check_asked_in(zone.apex, name)
    check_kind(kind)
    found = gaps_by_name(zone)
    needed = {}
    for name in names:
        shows = names_showing(zone, list(found), name, kind)
        if shows is not None:
            # Just these gaps show it of the name, so the list can't do without them.
            needed.update({other: True for other in shows})
    return [found[name] for name in in_order(list(needed))]
