"""Views: which one an asker with an address gets, for all addresses."""

from rootward.checks import MOST_ADDRESS, check_machine, is_address, is_node
from rootward.errors import InvalidViews
from rootward.values import renewed


def _is_view(value):
    """Return whether any object is a tuple of views."""
    if not isinstance(value, tuple) or len(value) != 3:
        return False
    low, high, view = value
    return is_address(low) and is_address(high) and low <= high and is_node(view)


def _check_views(views):
    if not isinstance(views, list) or not all([_is_view(entry) for entry in views]):
        raise InvalidViews(renewed(views))


def view_of(views, machine):
    """Return the view that an address gets, None without one."""
    _check_views(views)
    check_machine(machine)
    return _view_of(views, machine)


def _view_of(views, machine):
    found = _indexes_with(views, machine)
    return views[found[0]][2] if len(found) > 0 else None


def _indexes_with(views, machine):
    """Return the indexes of the tuples whose ranges have an address."""
    return [index for index, (low, high, _) in enumerate(views) if low <= machine <= high]


def _starts(views):
    """Return the addresses, ascending, at which what an address gets may become another."""
    starts = {0: True}
    for low, high, _ in views:
        starts[low] = True
        if high < MOST_ADDRESS:
            starts[high + 1] = True
    return sorted(starts)


def idle_views(views):
    """Return the indexes of the tuples that no address gets, ascending."""
    _check_views(views)
    # Each tuple that some address gets is got at a start, as all addresses from one start up to the next get the same.
    got = {index: True for start in _starts(views) for index in _indexes_with(views, start)[:1]}
    return [index for index in range(len(views)) if index not in got]


def view_ranges(views):
    """Return the longest ranges with one view, or none, that together have all addresses."""
    _check_views(views)
    return _ranges(views)


def _ranges(views):
    starts = [start for start in _starts(views) if start == 0 or _view_of(views, start - 1) != _view_of(views, start)]
    ends = [start - 1 for start in starts[1:]] + [MOST_ADDRESS]
    return [(start, end, _view_of(views, start)) for start, end in zip(starts, ends)]


def unlike_view(views, other_views):
    """Return the least address that gets unlike views, None if there is none."""
    _check_views(views)
    _check_views(other_views)
    starts = _starts(views) + _starts(other_views)
    return min([start for start in starts if _view_of(views, start) != _view_of(other_views, start)], default=None)


def merged_views(views):
    """Return a shortest list of views, ascending and without overlaps, that tells the same for all addresses."""
    _check_views(views)
    return [entry for entry in _ranges(views) if entry[2] is not None]
