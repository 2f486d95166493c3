"""Caches: entries with lives and ranks, which tell what was answered until their moments are over."""

from rootward.checks import check_asked_kind, check_count, check_moment, check_plain_name, check_policy
from rootward.entries import (
    age_of, entries_clash, entry_answers, entry_place, is_entry, life_under, same_questions, told_by)
from rootward.errors import InvalidEntry, InvalidMoment, InvalidNumber, Nothing
from rootward.nameparts import ends_with
from rootward.values import is_between, renewed

MOST_RANK = 9


def life(policy, age):
    """Return for how long an entry with an age lives under a policy."""
    check_policy(policy)
    check_count(age)
    return life_under(policy, age)


def clash(entry, other):
    """Return True if two entries answer some question, unlike but for the ages, otherwise False."""
    _check_entry(entry)
    _check_entry(other)
    return entries_clash(entry, other)


def _check_entry(entry):
    if not is_entry(entry):
        raise InvalidEntry(renewed(entry))


class Cache:
    """A cache with a policy and a clock: its entries are tuples (entry, rank, until)."""

    def __init__(self, policy):
        check_policy(policy)
        self._floor, self._ceiling = policy
        self._now = 0
        self._held = []
        # What each put that came in and each drop that dropped something took out and put in.
        self._past = []

    def __eq__(self, other):
        if not isinstance(other, Cache):
            return False
        return self.policy == other.policy and self._now == other._now and self._living() == other._living()

    @property
    def policy(self):
        """The floor and the ceiling of all lives."""
        return (self._floor, self._ceiling)

    def put(self, moment, entry, rank):
        """Put an entry in; return True if it came in, otherwise False."""
        self._check_moment(moment)
        _check_entry(entry)
        if not is_between(rank, 0, MOST_RANK):
            raise InvalidNumber(renewed(rank))
        self._now = moment
        lasting = life_under(self.policy, age_of(entry))
        going = [row for row in self._living() if entries_clash(row[0], entry) or same_questions(row[0], entry)]
        if lasting == 0 or any([other_rank > rank for _, other_rank, _ in going]):
            return False
        self._exchange(going, [(entry, rank, moment + lasting)])
        return True

    def look(self, moment, name, kind):
        """Return what the entries tell of a name and kind, and for how long it is left; None if none tells it."""
        self._check_moment(moment)
        check_plain_name(name)
        check_asked_kind(kind)
        self._now = moment
        found = [row for row in self._living() if entry_answers(row[0], name, kind)]
        if len(found) == 0:
            return None
        # As no two of them clash, all tell the same but for what is left.
        return told_by(found[0][0], max([until for _, _, until in found]) - moment)

    def living(self, moment):
        """Return the tuples (entry, rank, until) of the living entries, in order."""
        self._check_moment(moment)
        self._now = moment
        return self._living()

    def drop(self, name):
        """Let all living entries at or below a name go; return their number."""
        check_plain_name(name)
        going = [row for row in self._living() if ends_with(row[0][1], name)]
        if len(going) > 0:
            self._exchange(going, [])
        return len(going)

    def undo(self):
        """Take back the last put that came in or drop that dropped something; the clock stays."""
        if len(self._past) == 0:
            raise Nothing(None)
        taken, added = self._past.pop()
        self._held = [row for row in self._held if row not in added] + list(taken)

    def twin(self):
        """Return a cache with the same past."""
        other = Cache(self.policy)
        other._now = self._now
        other._held = list(self._held)
        other._past = list(self._past)
        return other

    def _check_moment(self, moment):
        """Raise InvalidMoment if any object is no moment, or the clock is behind it."""
        check_moment(moment)
        if moment < self._now:
            raise InvalidMoment(renewed(moment))

    def _living(self):
        """Return the tuples of the living entries, in order."""
        return sorted([row for row in self._held if row[2] > self._now], key=_row_place)

    def _exchange(self, taken, added):
        self._past.append((tuple(taken), tuple(added)))
        # What no longer lives never does so again, as the clock does not go back.
        self._held = [row for row in self._living() if row not in taken] + added


def _row_place(row):
    return entry_place(row[0])
