"""Timelines: what a source has at which moments, and how stale it is later.

Histories of firsts are told likewise: of a tuple only the moment, at the beginning, and the value, at the end, count
here. A tuple of a timeline that is told has the moment, the age and the value."""

from rootward.checks import is_moment, is_node
from rootward.entries import life_under
from rootward.errors import InvalidTimeline
from rootward.values import renewed


def are_dated(value):
    """Return whether any object is a list, not empty, of tuples of three with moments, ascending from 0 on."""
    if not isinstance(value, list) or not all([isinstance(row, tuple) and len(row) == 3 for row in value]):
        return False
    moments = [row[0] for row in value]
    if not all([is_moment(moment) for moment in moments]) or moments[:1] != [0]:
        return False
    return all([moment < behind for moment, behind in zip(moments, moments[1:])])


def is_timeline(value):
    """Return whether any object is a timeline."""
    return are_dated(value) and all([is_moment(age) and is_node(told) for _, age, told in value])


def check_timeline(timeline):
    """Raise InvalidTimeline if any object is no timeline."""
    if not is_timeline(timeline):
        raise InvalidTimeline(renewed(timeline))


def force_at(timeline, moment):
    """Return the tuple that is in force at a moment."""
    return [row for row in timeline if row[0] <= moment][-1]


def spans(timeline):
    """Return the tuples (tuple, last moment in force) of a timeline, None for the last one's."""
    ends = [row[0] - 1 for row in timeline[1:]] + [None]
    return list(zip(timeline, ends))


def staleness_of(timeline, moment, value):
    """Return how long a value was not in force at a moment, None if it never was up to then."""
    lasts = [moment if end is None else min(moment, end) for row, end in spans(timeline)
             if row[0] <= moment and row[-1] == value]
    return moment - max(lasts) if len(lasts) > 0 else None


def stalest_between(timeline, value, earliest, latest):
    """Return the greatest staleness of a value at some moments, and one of them; it is in force at the earliest."""
    # Between two times in force staleness grows, so only the last moment, and those ahead of a new time, count.
    moments = [latest] + [row[0] - 1 for row in timeline if earliest < row[0] <= latest]
    return max([(staleness_of(timeline, moment, value), moment) for moment in moments])


def sources_at(timeline, policy, moment):
    """Return the tuples (value, moment) of what a cache may tell at a moment and when it may have got this."""
    found = [(force_at(timeline, moment)[2], moment)]
    for (_, age, value), end in spans(timeline):
        if end is not None and end < moment < end + life_under(policy, age):
            found.append((value, end))
    return found
