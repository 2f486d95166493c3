"""Seconds that copy what a first has: their askings, what they tell, and how far they lag behind."""

from rootward.checks import check_bound, check_moment, check_schedule, is_node
from rootward.errors import InvalidHistory, InvalidTimers
from rootward.timelines import are_dated, force_at, stalest_between
from rootward.values import is_whole, renewed


def told_second(history, lost, moment):
    """Return the value that a second tells at a moment, None for nothing."""
    _check_history(history)
    check_schedule(lost)
    check_moment(moment)
    success = _last_success(history, lost, moment)
    _, (_, _, expire), value = force_at(history, success)
    return value if moment < success + expire else None


def _last_success(history, lost, moment):
    """Return the moment of the last success up to one."""
    success = 0
    while True:
        refresh, retry, _ = force_at(history, success)[1]
        # Up to the next change or lost moment all askings are alike, so that these may be many.
        events = [row[0] for row in history] + lost + [moment + 1]
        ahead = min([event for event in events if event > success])
        success += (ahead - 1 - success) // refresh * refresh
        asking = success + refresh
        while asking in lost:
            asking += retry
        if asking > moment:
            return success
        success = asking


def askings(history, lost, until):
    """Return the moments of all askings up to one, ascending."""
    _check_history(history)
    check_schedule(lost)
    check_moment(until)
    found = []
    refresh, retry, _ = history[0][1]
    asking = refresh
    while asking <= until:
        found.append(asking)
        if asking in lost:
            asking += retry
        else:
            refresh, retry, _ = force_at(history, asking)[1]
            asking += refresh
    return found


def longest_lag(timers, losses):
    """Return the greatest staleness for all histories with some timers and so many lost askings in a row."""
    _check_timers(timers, losses)
    refresh, retry, expire = timers
    return expire - 1 if losses is None else min(refresh + losses * retry, expire) - 1


def longest_silence(timers, losses):
    """Return the greatest number of neighbouring moments at which nothing is told, None without a greatest one."""
    _check_timers(timers, losses)
    refresh, retry, expire = timers
    return None if losses is None else max(0, refresh + losses * retry - expire)


def longest_lag_noticed(timers, losses):
    """Return the greatest staleness for all histories with some timers if the first sends notices."""
    _check_timers(timers, losses)
    _, retry, expire = timers
    return expire - 1 if losses is None else min(losses * retry, expire - 1)


def longest_lag_in(history, losses, until):
    """Return the greatest staleness for one history of what is told up to a moment."""
    _check_losses(history, losses, until)
    return _longest(history, losses, until)[0]


def lag_plan(history, losses, until):
    """Return a tuple (lost, moment) that reaches the greatest staleness for one history up to a moment."""
    _check_losses(history, losses, until)
    _, moment, success = _longest(history, losses, until)
    ahead = _successes(history, losses, until)
    lost = _askings_from(history, success, moment + 1)
    while success > 0:
        lost = _askings_from(history, ahead[success], success) + lost
        success = ahead[success]
    return (lost, moment)


def success_moments(history, losses, until):
    """Return the moments up to one, ascending, at which some list of lost askings makes a success."""
    _check_losses(history, losses, until)
    return sorted(_successes(history, losses, until))


def _askings_from(history, success, until):
    """Return the moments ahead of one at which is asked behind a success if all these askings are lost."""
    refresh, retry, _ = force_at(history, success)[1]
    return list(range(success + refresh, until, retry))


def _successes(history, losses, until):
    """Return a dict: to each moment of a possible success up to one that of the success ahead of it."""
    ahead = {0: None}
    for moment in range(until + 1):
        if moment in ahead:
            asked = _askings_from(history, moment, until + 1)
            for asking in asked if losses is None else asked[:losses + 1]:
                ahead[asking] = moment
    return ahead


def _longest(history, losses, until):
    """Return the tuple (staleness, moment, success) of what is told stalest up to a moment."""
    found = []
    for success in _successes(history, losses, until):
        _, (refresh, retry, expire), value = force_at(history, success)
        lasting = expire if losses is None else min(expire, refresh + losses * retry)
        found.append(stalest_between(history, value, success, min(until, success + lasting - 1)) + (success,))
    return max(found)


def _check_history(history):
    if not are_dated(history) or not all([_are_timers(timers) and is_node(value) for _, timers, value in history]):
        raise InvalidHistory(renewed(history))


def _are_timers(value):
    """Return whether any object is a tuple (refresh, retry, expire)."""
    if not isinstance(value, tuple) or len(value) != 3:
        return False
    return all([is_whole(part) and part >= 1 for part in value])


def _check_timers(timers, losses):
    if not _are_timers(timers):
        raise InvalidTimers(renewed(timers))
    check_bound(losses)


def _check_losses(history, losses, until):
    _check_history(history)
    check_bound(losses)
    check_moment(until)
