"""Stories: names that lead to one another, whose parts a cache keeps apart, and what is told of them together."""

from rootward.checks import check_count, check_moment, check_plain_name, check_policy, is_moment, is_node
from rootward.entries import life_under
from rootward.errors import InvalidName, InvalidTimeline
from rootward.labels import is_asked
from rootward.nameparts import place
from rootward.timelines import are_dated, force_at, sources_at
from rootward.values import renewed


def may_tell_whole(story, policy, name, moment):
    """Return the lists of pairs (name, value), ascending, that may be told of a name at a moment."""
    _check(story, policy, name)
    check_moment(moment)
    return _whole(story, policy, name, moment)


def _whole(story, policy, name, moment):
    values = {}
    for part, timeline in story.items():
        found = {value: True for value, _ in sources_at(timeline, policy, moment)}
        values[part] = sorted(found, key=_value_place)
    return _lists_from(values, [], name)


def _lists_from(values, pairs, name):
    """Return the lists that begin with some pairs, go on with a name, and end with rows or so many pairs as names."""
    if len(pairs) == len(values):
        return [pairs]
    told = [value for part, value in pairs if part == name]
    found = []
    # What comes again is told as ahead: at one moment a cache tells one value of a name.
    for value in told[:1] if len(told) > 0 else values[name]:
        longer = pairs + [(name, value)]
        found.extend([longer] if value[0] == "rows" else _lists_from(values, longer, value[1]))
    return found


def _value_place(value):
    """Return what values are ordered by; all lists go on from one name, so that the values alone decide."""
    return (value[0], value[1] if value[0] == "rows" else place(value[1]))


def torn(story, policy, name, moment):
    """Return those of the lists that may be told whose values were never in force together."""
    _check(story, policy, name)
    check_moment(moment)
    return _torn(story, policy, name, moment)


def _torn(story, policy, name, moment):
    changes = [change for change in _changes(story) if change <= moment]
    in_force = {}
    for at, change in enumerate(changes):
        for part, timeline in story.items():
            pair = (part, force_at(timeline, change)[2])
            in_force[pair] = in_force.get(pair, 0) | 1 << at
    return [pairs for pairs in _whole(story, policy, name, moment) if not _were_together(in_force, pairs)]


def _changes(story):
    """Return the moments, ascending, at which a part of a story comes into force."""
    return sorted({row[0]: True for timeline in story.values() for row in timeline})


def _were_together(in_force, pairs):
    """Return whether all pairs have a bit in common; in_force: to pairs a bit for each change behind which they are."""
    bits = in_force[pairs[0]]
    for pair in pairs:
        bits = bits & in_force[pair]
    return bits > 0


def first_torn(story, policy, name):
    """Return the first moment at which a torn list may be told, None if there is none."""
    _check(story, policy, name)
    # Between two changes values only cease to be told.
    for moment in _changes(story):
        if len(_torn(story, policy, name, moment)) > 0:
            return moment
    return None


def least_wait(age, new_age, policy):
    """Return how long a source has to tell a new age ahead of a change, so that all is as fresh as by that age."""
    check_count(age)
    check_count(new_age)
    check_policy(policy)
    return max(1, life_under(policy, age) - max(1, life_under(policy, new_age)))


def _check(story, policy, name):
    if not isinstance(story, dict) or len(story) == 0 or not all([is_asked(part) for part in story]):
        raise InvalidTimeline(renewed(story))
    if not all([_is_part(timeline, story) for timeline in story.values()]):
        raise InvalidTimeline(renewed(story))
    check_policy(policy)
    check_plain_name(name)
    if name not in story:
        raise InvalidName(renewed(name))


def _is_part(value, story):
    """Return whether any object is a timeline whose values lead to names of a story or are rows."""
    return are_dated(value) and all([is_moment(age) and _is_value(told, story) for _, age, told in value])


def _is_value(value, story):
    if not isinstance(value, tuple) or len(value) != 2:
        return False
    if value[0] == "rows":
        return is_node(value[1])
    return value[0] == "to" and is_asked(value[1]) and value[1] in story
