"""Seconds: askings, what is told, lags and silences, for all lost askings."""

import random
import unittest
from itertools import product

from rootward.errors import InvalidHistory, InvalidMoment, InvalidNumber, InvalidSchedule, InvalidTimers
from rootward.seconds import askings, lag_plan, longest_lag, longest_lag_in, longest_lag_noticed, longest_silence, success_moments, told_second
from tests.manners import check_refused
from tests.plaincaches import force, stale_by
from tests.samples import NOTHING_AT_ALL
from tests.test_cacheruns import NO_SCHEDULES
from tests.test_caches import NO_MOMENTS
from tests.test_stale import NO_BOUNDS

TIMERS = (20, 5, 60)
STORY = [(0, TIMERS, "old"), (21, TIMERS, "new")]
NO_TIMERS = [one for one in NOTHING_AT_ALL] + [(0, 1, 1), (1, 0, 1), (1, 1, 0), (1, 1), (1, 1, 1, 1), [1, 1, 1], (True, 1, 1), (1, True, 1), (1, 1, True), (1, None, 1), ("1", 1, 1), (-1, 1, 1)]
NO_HISTORIES = [one for one in NOTHING_AT_ALL] + [tuple(STORY), [(1, TIMERS, "old")], STORY + [(21, TIMERS, "b")], STORY + [(20, TIMERS, "b")], [(0, TIMERS)], [(0, TIMERS, "old", 1)], [[0, TIMERS, "old"]],
                                                 [(0, TIMERS, "Old")], [(0, TIMERS, "")], [(0, TIMERS, "a" * 9)], [(0, TIMERS, ("rows", "a"))], [(False, TIMERS, "a")], {0: TIMERS}]
NO_HISTORIES.extend([[(0, value, "old")] for value in NO_TIMERS] + [STORY + [(30, TIMERS, value)] for value in NOTHING_AT_ALL] + [STORY + [value] for value in NOTHING_AT_ALL])


def walked(history, lost, until, noticed=False):
    """What a second does, moment by moment: the lists of its askings, successes, and of what it tells."""
    copy, success, asking = history[0], 0, history[0][1][0]
    asked, successes, told = [], [0], []
    changes = [row[0] for row in history[1:]]
    for moment in range(until + 1):
        if moment == asking or (noticed and moment in changes):
            asked.append(moment)
            if moment in lost:
                asking = moment + copy[1][1]
            else:
                copy, success = force(history, moment), moment
                successes.append(moment)
                asking = moment + copy[1][0]
        told.append(copy[2] if moment < success + copy[1][2] else None)
    return asked, successes, told


def all_walks(history, losses, until, noticed=False):
    """What a second does for all lists of lost askings with at most so many in a row."""
    found, todo = [], [[]]
    while todo:
        lost = todo.pop()
        asked, successes, told = walked(history, lost, until, noticed)
        rows = "".join(["x" if moment in lost else " " for moment in asked]).split()
        if losses is None or all([len(row) <= losses for row in rows]):
            found.append((asked, successes, told))
            # Each list once: what is lost next lies behind what is lost already.
            todo.extend([lost + [moment] for moment in asked if moment > max(lost, default=0)])
    return found


def random_history(chance, until, most=4):
    """A history that chance decides."""
    moments = [0] + sorted(chance.sample(range(1, until), chance.randrange(4)))
    return [(moment, (chance.randrange(1, most), chance.randrange(1, most), chance.randrange(1, 2 * most)), chance.choice("abc")) for moment in moments]


class StepsTest(unittest.TestCase):
    def test_by_hand(self):
        self.assertEqual(["old", "new", "new"], [told_second(STORY, [], 39), told_second(STORY, [], 40), told_second(STORY, [20, 25], 30)])
        self.assertEqual([[20, 25, 30, 50], [20, 40, 60], [], [20]], [askings(STORY, [20, 25], 60), askings(STORY, [], 60), askings(STORY, [], 19), askings(STORY, [], 20)])
        # Moments at which nothing is asked are lost in vain, also 0.
        self.assertEqual([20, 40, 45, 50], askings(STORY, [0, 0, 5, 21, 40, 40, 45], 60)[:4])
        short = [(0, (5, 2, 6), "a"), (4, (3, 1, 2), "b")]
        self.assertEqual([5, 7, 10, 11, 14], askings(short, [5, 10], 15))
        self.assertEqual(["a", None, "b", "b", None, None, "b"], [told_second(short, [5, 10], moment) for moment in [5, 6, 7, 8, 9, 10, 11]])

    def test_moment_by_moment(self):
        for seed in range(250):
            chance = random.Random(seed)
            history = random_history(chance, 20)
            lost = sorted([chance.randrange(30) for _ in range(chance.randrange(12))])
            asked, _, told = walked(history, lost, 30)
            self.assertEqual(asked, askings(history, lost, 30))
            self.assertEqual(told, [told_second(history, lost, moment) for moment in range(31)])

    def test_limits(self):
        self.assertEqual("new", told_second([(0, (1, 1, 10 ** 9), "old"), (10 ** 9, (1, 1, 1), "new")], [5], 10 ** 9))
        self.assertEqual("old", told_second([(0, (1, 1, 10 ** 9), "old"), (10 ** 9, (1, 1, 1), "new")], [5, 10 ** 9], 10 ** 9))
        self.assertIsNone(told_second([(0, (10 ** 9, 1, 1), "old")], [], 10 ** 9 - 1))
        self.assertEqual("old", told_second([(0, (10 ** 9, 1, 1), "old")], [], 10 ** 9))
        line = [(at * 10 ** 8, (at + 1, 7, 10 ** 9), "abcdefgh"[at]) for at in range(8)]
        self.assertEqual("h", told_second(line, [at * 10 ** 7 for at in range(40)], 10 ** 12))


class AllLossesTest(unittest.TestCase):
    def check(self, history, losses, until):
        walks = all_walks(history, losses, until)
        stalest = [stale_by(history, moment, value) for _, _, told in walks for moment, value in enumerate(told) if value is not None]
        self.assertEqual(max(stalest), longest_lag_in(history, losses, until))
        lost, moment = lag_plan(history, losses, until)
        self.assertEqual(max(stalest), stale_by(history, moment, told_second(history, lost, moment)))
        self.assertLessEqual(moment, until)
        asked = askings(history, lost, until)
        rows = "".join(["x" if when in lost else " " for when in asked]).split()
        self.assertTrue(losses is None or all([len(row) <= losses for row in rows]))
        self.assertEqual(sorted({when for _, successes, _ in walks for when in successes}), success_moments(history, losses, until))

    def test_histories(self):
        for seed in range(120):
            chance = random.Random(seed)
            until = chance.choice([0, 5, 9, 10])
            self.check(random_history(chance, 9), chance.choice([0, 1, 2, None]), until)

    def test_values_that_come_again(self):
        for losses in [0, 1, None]:
            self.check([(0, (3, 1, 9), "a"), (1, (1, 1, 2), "b"), (5, (1, 1, 1), "a")], losses, 9)
            self.check([(0, (1, 1, 1), "a"), (3, (9, 9, 9), "b"), (4, (1, 1, 1), "a")], losses, 10)

    def test_by_hand(self):
        self.assertEqual([19, 10, 59], [longest_lag_in(STORY, 0, 400), longest_lag_in(STORY, 0, 30), longest_lag_in(STORY, None, 400)])
        self.assertEqual([19, 24, 29, 59], [longest_lag_in([(0, TIMERS, "old"), (change, TIMERS, "new")], losses, 400) for change, losses in [(21, 0), (21, 1), (21, 2), (1, None)]])
        self.assertEqual([0, 20, 25, 30, 40, 45], success_moments(STORY, 2, 45))
        self.assertEqual([0, 20, 40], success_moments(STORY, 0, 59))
        self.assertEqual([0], success_moments(STORY, None, 19))

    def test_limits(self):
        history = [(at * 50, (1, 1, 10 ** 9), "abcdefgh"[at]) for at in range(8)]
        self.assertEqual(400, longest_lag_in(history[:1] + [(1, (1, 1, 1), "b")], None, 400))
        self.assertEqual(351, longest_lag_in(history, None, 400))
        self.assertEqual(401, len(success_moments(history, 10 ** 9, 400)))
        lost, moment = lag_plan(history, None, 400)
        self.assertEqual((400, "a"), (moment, told_second(history, lost, moment)))

    def test_formulas(self):
        for timers in product([1, 2, 4], [1, 2, 3], [1, 3, 6]):
            refresh, retry, expire = timers
            for losses in [0, 1, 2]:
                histories = [[(0, timers, "a"), (change, timers, "b")] for change in range(1, 7)]
                self.assertEqual(max([longest_lag_in(history, losses, 40) for history in histories]), longest_lag(timers, losses))
                gaps = 0
                for asked, successes, told in all_walks(histories[0][:1], losses, 11):
                    marks = "".join(["x" if value is None else " " for value in told]).split()
                    gaps = max([gaps] + [len(mark) for mark in marks])
                if refresh + losses * retry <= 11:
                    self.assertEqual(gaps, longest_silence(timers, losses))
            self.assertEqual([expire - 1, None], [longest_lag(timers, None), longest_silence(timers, None)])
            self.assertEqual(max([longest_lag_in([(0, timers, "a"), (change, timers, "b")], None, 40) for change in range(1, 7)]), longest_lag(timers, None))

    def test_formulas_by_hand(self):
        self.assertEqual([29, 59, 5, 10], [longest_lag(TIMERS, 2), longest_lag(TIMERS, None), longest_silence(TIMERS, 9), longest_lag_noticed(TIMERS, 2)])
        self.assertEqual([19, 59, 0, 0, 0, 59, 59], [longest_lag(TIMERS, 0), longest_lag(TIMERS, 8), longest_silence(TIMERS, 8), longest_silence(TIMERS, 0), longest_lag_noticed(TIMERS, 0),
                                                     longest_lag_noticed(TIMERS, 12), longest_lag_noticed(TIMERS, None)])
        self.assertEqual(10 ** 9 - 1, longest_lag((1, 1, 10 ** 9), 10 ** 9 * 2))

    def test_notices(self):
        for timers in product([1, 2, 4], [1, 2, 3], [1, 3, 5]):
            for losses in [0, 1, 2, None]:
                stalest = 0
                for changes in [(1,), (2,), (3,), (5,), (1, 2), (2, 4)]:
                    history = [(0, timers, "a")] + [(change, timers, "bc"[at]) for at, change in enumerate(changes)]
                    for _, _, told in all_walks(history, losses, 11, True):
                        stalest = max([stalest] + [stale_by(history, moment, value) for moment, value in enumerate(told) if value is not None])
                self.assertEqual(stalest, longest_lag_noticed(timers, losses))


class WrongArgumentsTest(unittest.TestCase):
    def test_histories(self):
        for value in NO_HISTORIES:
            for call in [lambda: told_second(value, None, None), lambda: askings(value, None, None), lambda: longest_lag_in(value, -1, None), lambda: lag_plan(value, -1, None),
                         lambda: success_moments(value, -1, None)]:
                check_refused(self, InvalidHistory, value, call)

    def test_others(self):
        for value in NO_TIMERS:
            for call in [longest_lag, longest_silence, longest_lag_noticed]:
                check_refused(self, InvalidTimers, value, lambda: call(value, -1))
        for value in NO_BOUNDS:
            for call in [longest_lag, longest_silence, longest_lag_noticed]:
                check_refused(self, InvalidNumber, value, lambda: call(TIMERS, value))
            for call in [longest_lag_in, lag_plan, success_moments]:
                check_refused(self, InvalidNumber, value, lambda: call(STORY, value, -1))
        for value in NO_MOMENTS:
            for call in [longest_lag_in, lag_plan, success_moments]:
                check_refused(self, InvalidMoment, value, lambda: call(STORY, None, value))
            for call in [told_second, askings]:
                check_refused(self, InvalidMoment, value, lambda: call(STORY, [5], value))
        for value in NO_SCHEDULES:
            for call in [told_second, askings]:
                check_refused(self, InvalidSchedule, value, lambda: call(STORY, value, None))
