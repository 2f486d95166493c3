"""Gaps and all names: which names lie between two, and which of a zone's some gaps do not show."""

from rootward.errors import InvalidGap, InvalidNumber
from rootward.gapparts import check_asked_in, gaps_by_name, has_none, hides_below, names_showing, wild_below
from rootward.labels import WILD, check_asked, check_name
from rootward.labelspans import count_in_spans, first_in_span, spans_behind
from rootward.nameparts import in_order, is_beneath, place, sized_place, weight
from rootward.records import check_kind
from rootward.values import rebuilt


def _check_ends(one, other):
    check_name(one)
    if other is not None:
        check_name(other)


def _is_room(one, other):
    """Return whether a name is ahead of another one, or of the end."""
    return other is None or place(one) < place(other)


def first_between(one, other):
    """Return the first name without `*` between two names, or behind one, None if there is none."""
    _check_ends(one, other)
    if not _is_room(one, other):
        return None
    names = []
    for above, lower, _ in spans_behind(one):
        # With a name also those above it are between, so of the labels ahead of these there is just one.
        is_last = other is not None and is_beneath(other, above)
        upper = other[len(other) - len(above) - 1] if is_last else None
        names.append(first_in_span((above, lower, upper)))
        if is_last and is_beneath(other, (upper,) + above):
            names.append((upper,) + above)
        if is_last:
            break
    return _first_of(names)


def _first_of(names):
    """Return the first of some names, of which some may be None, None if all are."""
    return min([name for name in names if name is not None], key=sized_place, default=None)


def between(one, other, size):
    """Return how many names without `*` of a size there are between two names, or behind one."""
    _check_ends(one, other)
    if size < 0:
        raise InvalidNumber(size)
    if not _is_room(one, other):
        return 0
    number = count_in_spans(spans_behind(one), size)
    if other is None:
        return number
    own = 1 if other[:1] != (WILD,) and weight(other) == size else 0
    return number - own - count_in_spans(spans_behind(other), size)


def _is_empty_itself(zone, gap, kind):
    """Return whether a gap's own name, being asked for a kind, is empty."""
    name, _, kinds = gap
    return name[:1] != (WILD,) and has_none(gap, kind) and ("server" not in kinds or name == zone.apex)


def _spans_over(apex, gap):
    """Return the spans of the names over which a gap of a zone stands: the names above are the nearest ones."""
    name, end, _ = gap
    spans = []
    for above, lower, _ in spans_behind(name):
        # All names of a zone but the apex stand right below another one.
        is_last = end != apex and end[1:] == above
        if above != name or not hides_below(gap, apex):
            spans.append((above, lower, end[0] if is_last else None))
        if is_last or above == apex:
            return spans
    return spans


def _also_needed(found, nearest, kind):
    """Return the name of the gap that shows there is nothing by a wild name below the nearest one, None if there is."""
    wild = wild_below(nearest)
    if wild not in found:
        return nearest
    return wild if has_none(found[wild], kind) else None


def _check_gaps_of(found, gaps):
    known = list(found.values())
    for gap in gaps:
        if gap not in known:
            raise InvalidGap(rebuilt(gap))


def first_untold(zone, gaps, kind):
    """Return the first name that is absent or empty and of which some gaps of a zone do not show it, None without."""
    found = gaps_by_name(zone)
    _check_gaps_of(found, gaps)
    check_kind(kind)
    passed = {gap[0]: True for gap in gaps}
    names = []
    for name, gap in found.items():
        if _is_empty_itself(zone, gap, kind) and name not in passed:
            names.append(name)
        for span in _spans_over(zone.apex, gap):
            needed = _also_needed(found, span[0], kind)
            if needed is not None and (name not in passed or needed not in passed):
                names.append(first_in_span(span))
    return _first_of(names)


def told(zone, gaps, kind, size):
    """Return of how many names of a size some gaps of a zone show that they are absent or empty."""
    found = gaps_by_name(zone)
    _check_gaps_of(found, gaps)
    check_kind(kind)
    if size < 0:
        raise InvalidNumber(size)
    passed = {gap[0]: True for gap in gaps}
    own = [name for name in passed if weight(name) == size and _is_empty_itself(zone, found[name], kind)]
    spans = []
    for name in passed:
        for span in _spans_over(zone.apex, found[name]):
            if _also_needed(found, span[0], kind) in passed:
                spans.append(span)
    return len(own) + count_in_spans(spans, size)


def fewest(zone, names, kind):
    """Return the shortest list of gaps of a zone that shows absent or empty of all of some names that are."""
    for name in names:
        check_asked(name)
    for name in names:
        check_asked_in(zone.apex, name)
    check_kind(kind)
    found = gaps_by_name(zone)
    needed = {}
    for name in names:
        shows = names_showing(zone, list(found), name, kind)
        if shows is not None:
            # Just these gaps show it of the name, so the list can't do without them.
            needed.update({other: True for other in shows})
    return [found[name] for name in in_order(list(needed))]
