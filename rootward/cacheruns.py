"""A cache that asks a source, for all schedules: what it tells, may tell, and tells no longer."""

from rootward.checks import check_moment, check_policy, check_schedule
from rootward.entries import life_under
from rootward.errors import InvalidValue
from rootward.timelines import check_timeline, force_at, sources_at, spans, staleness_of
from rootward.values import renewed


def in_force(timeline, moment):
    """Return the tuple of a timeline that is in force at a moment."""
    check_timeline(timeline)
    check_moment(moment)
    return force_at(timeline, moment)


def staleness(timeline, moment, value):
    """Return how long ago a value was in force last at a moment."""
    check_timeline(timeline)
    check_moment(moment)
    found = staleness_of(timeline, moment, value)
    if found is None:
        raise InvalidValue(renewed(value))
    return found


def told(timeline, policy, schedule):
    """Return for each moment of a schedule the tuple (value, left) that a cache, empty at first, tells."""
    check_timeline(timeline)
    check_policy(policy)
    check_schedule(schedule)
    found = []
    value, until = None, 0
    for moment in schedule:
        if moment < until:
            found.append((value, until - moment))
        else:
            _, age, fresh = force_at(timeline, moment)
            lasting = life_under(policy, age)
            found.append((fresh, lasting))
            value, until = fresh, moment + lasting
    return found


def may_tell(timeline, policy, moment):
    """Return the values, ascending, that some schedule makes a cache tell at a moment."""
    _check(timeline, policy)
    check_moment(moment)
    return sorted({value: True for value, _ in sources_at(timeline, policy, moment)})


def schedule_for(timeline, policy, moment, value):
    """Return a schedule that makes a cache tell a value at a moment, None if there is none."""
    _check(timeline, policy)
    check_moment(moment)
    got = [when for told_value, when in sources_at(timeline, policy, moment) if told_value == value]
    if len(got) == 0:
        return None
    return [moment] if moment in got else [got[0], moment]


def settled(timeline, policy):
    """Return the first moment from which on all schedules make a cache tell the last value alone."""
    _check(timeline, policy)
    # What was got at the last moment in force is told for its life, or at this moment alone if it is not kept.
    last = timeline[-1][2]
    ends = [end + max(1, life_under(policy, age)) for (_, age, value), end in spans(timeline) if value != last]
    return max(ends, default=0)


def _check(timeline, policy):
    check_timeline(timeline)
    check_policy(policy)
