"""How stale a cache may tell on while its source is silent: of one timeline, and of all."""

from rootward.checks import are_moments, check_bound, check_count, check_moment, check_policy, check_schedule, is_moment
from rootward.entries import life_under
from rootward.timelines import check_timeline, force_at, spans, staleness_of, stalest_between


def told_silent(timeline, policy, grace, schedule, silence):
    """Return for each moment of a schedule the tuple (value, left) that a cache tells, None for nothing."""
    _check(timeline, policy, grace)
    check_schedule(schedule)
    check_schedule(silence)
    return _told_silent(timeline, policy, grace, schedule, silence)


def _told_silent(timeline, policy, grace, schedule, silence):
    found = []
    value, until = None, 0
    for moment in schedule:
        if moment < until:
            found.append((value, until - moment))
        elif moment in silence:
            has_grace = value is not None and (grace is None or moment < until + grace)
            found.append((value, 1) if has_grace else None)
        else:
            _, age, fresh = force_at(timeline, moment)
            lasting = life_under(policy, age)
            found.append((fresh, lasting))
            # What is not kept leaves an entry that no longer lives where it was.
            if lasting > 0:
                value, until = fresh, moment + lasting
    return found


def longest_stale(timeline, policy, grace, until):
    """Return the greatest staleness of what is told up to a moment, for all schedules and plans of silence."""
    _check(timeline, policy, grace)
    check_moment(until)
    return _stalest(timeline, policy, grace, until)[0]


def _stalest(timeline, policy, grace, until):
    """Return the tuple (staleness, moment, moment when it was got, whether it still lives) of the stalest telling."""
    found = [(0, 0, 0, True)]
    for (begun, age, value), end in spans(timeline):
        lasting = life_under(policy, age)
        if end is None or end >= until or lasting == 0:
            continue
        latest = until if grace is None else min(until, end + lasting - 1 + grace)
        stale, moment = stalest_between(timeline, value, begun, latest)
        got = min(end, moment)
        found.append((stale, moment, got, moment < got + lasting))
    return max(found)


def stale_run(timeline, policy, grace, until):
    """Return a tuple (schedule, silence, moment) that reaches the greatest staleness at its last moment."""
    _check(timeline, policy, grace)
    check_moment(until)
    _, moment, got, is_living = _stalest(timeline, policy, grace, until)
    return ([got, moment], [] if is_living else [moment], moment)


def judge_stale_run(timeline, policy, grace, until, value):
    """Return whether any object is a tuple (schedule, silence, moment) that reaches the greatest staleness."""
    _check(timeline, policy, grace)
    check_moment(until)
    if not isinstance(value, tuple) or len(value) != 3:
        return False
    schedule, silence, moment = value
    if not are_moments(schedule) or not are_moments(silence) or not is_moment(moment):
        return False
    if schedule[-1:] != [moment] or moment > until:
        return False
    told = _told_silent(timeline, policy, grace, schedule, silence)[-1]
    if told is None:
        return False
    return staleness_of(timeline, moment, told[0]) == _stalest(timeline, policy, grace, until)[0]


def stale_bound(age, policy, grace):
    """Return the greatest staleness for all timelines with ages up to one, None if there is no greatest one."""
    _check_bound(age, policy, grace)
    return bound_of(age, policy, grace)


def bound_of(age, policy, grace):
    """Return the greatest staleness of parameters that are known to be right, None without one."""
    lasting = life_under(policy, age)
    if lasting == 0:
        return 0
    return None if grace is None else lasting - 1 + grace


def worst_timeline(age, policy, grace):
    """Return a tuple (timeline, schedule, silence) that reaches the greatest staleness, None if none or 0 is it."""
    _check_bound(age, policy, grace)
    bound = bound_of(age, policy, grace)
    if bound is None or bound == 0:
        return None
    return ([(0, age, "old"), (1, age, "new")], [0, bound], [bound] if grace > 0 else [])


def _check(timeline, policy, grace):
    check_timeline(timeline)
    check_policy(policy)
    check_bound(grace)


def _check_bound(age, policy, grace):
    check_count(age)
    check_policy(policy)
    check_bound(grace)
