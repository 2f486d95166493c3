"""Caches with a grace: what silence makes of them."""

import random
import unittest
from itertools import product

from rootward.cacheruns import may_tell, staleness, told
from rootward.errors import InvalidMoment, InvalidNumber, InvalidPolicy, InvalidSchedule, InvalidTimeline
from rootward.stale import judge_stale_run, longest_stale, stale_bound, stale_run, told_silent, worst_timeline
from tests.manners import check_refused
from tests.plaincaches import force, lasting, random_policy, random_timeline, stale_by
from tests.samples import NOTHING_AT_ALL
from tests.test_cacheruns import LINE, NO_SCHEDULES, NO_TIMELINES
from tests.test_caches import NO_MOMENTS, NO_POLICIES

NO_BOUNDS = [one for one in NO_MOMENTS if one is not None]
GRACES = [0, 1, 2, None]


def plain_silent(line, policy, grace, schedule, silence):
    """What is told, moment by moment."""
    kept, found = None, []
    for moment in schedule:
        if kept is not None and moment < kept[1]:
            found.append((kept[0], kept[1] - moment))
        elif moment in silence:
            found.append((kept[0], 1) if kept is not None and (grace is None or moment < kept[1] + grace) else None)
        else:
            _, age, value = force(line, moment)
            if lasting(policy, age) > 0:
                kept = (value, moment + lasting(policy, age))
            found.append((value, lasting(policy, age)))
    return found


class WrongArgumentsTest(unittest.TestCase):
    def test_each(self):
        for value in NO_TIMELINES:
            for call in [lambda: told_silent(value, None, -1, None, None), lambda: longest_stale(value, None, -1, None), lambda: stale_run(value, None, -1, None),
                         lambda: judge_stale_run(value, None, -1, None, None)]:
                check_refused(self, InvalidTimeline, value, call)
        for value in NO_POLICIES:
            for call in [lambda: told_silent(LINE, value, -1, None, None), lambda: longest_stale(LINE, value, -1, None), lambda: stale_run(LINE, value, -1, None),
                         lambda: judge_stale_run(LINE, value, -1, None, None), lambda: stale_bound(1, value, -1), lambda: worst_timeline(1, value, -1)]:
                check_refused(self, InvalidPolicy, value, call)
        for value in NO_BOUNDS:
            for call in [lambda: told_silent(LINE, (0, 9), value, None, None), lambda: longest_stale(LINE, (0, 9), value, None), lambda: stale_run(LINE, (0, 9), value, None),
                         lambda: judge_stale_run(LINE, (0, 9), value, None, None), lambda: stale_bound(1, (0, 9), value), lambda: worst_timeline(1, (0, 9), value)]:
                check_refused(self, InvalidNumber, value, call)
        for value in NO_MOMENTS:
            for call in [lambda: longest_stale(LINE, (0, 9), None, value), lambda: stale_run(LINE, (0, 9), None, value), lambda: judge_stale_run(LINE, (0, 9), None, value, None)]:
                check_refused(self, InvalidMoment, value, call)
            check_refused(self, InvalidNumber, value, lambda: stale_bound(value, None, -1))
            check_refused(self, InvalidNumber, value, lambda: worst_timeline(value, None, -1))
        for value in NO_SCHEDULES:
            check_refused(self, InvalidSchedule, value, lambda: told_silent(LINE, (0, 9), None, value, None))
            check_refused(self, InvalidSchedule, value, lambda: told_silent(LINE, (0, 9), None, [1], value))


class SilenceTest(unittest.TestCase):
    def test_by_hand(self):
        rows = [(0, [99, 108, 109, 110], [109], [("old", 10), ("old", 1), None, ("new", 10)]), (2, [99, 109, 110, 111], [109, 110, 111], [("old", 10), ("old", 1), ("old", 1), None]),
                (None, [99, 10 ** 9], [10 ** 9], [("old", 10), ("old", 1)]), (None, [5], [5], [None]), (5, [0, 5, 9, 10], [0, 5, 9], [None, None, None, ("old", 10)]),
                (5, [99, 109, 110, 111], [109, 111], [("old", 10), ("old", 1), ("new", 10), ("new", 9)]), (5, [], [3], [])]
        for grace, schedule, silence, wanted in rows:
            self.assertEqual(wanted, told_silent(LINE, (0, 60), grace, schedule, silence))

    def test_what_is_not_kept_leaves_the_old_entry(self):
        line = [(0, 5, "a"), (5, 0, "b")]
        self.assertEqual([("a", 5), ("b", 0), ("a", 1), None], told_silent(line, (0, 9), 3, [4, 10, 11, 12], [11, 12]))
        self.assertEqual([("b", 0), None], told_silent(line, (0, 9), None, [5, 6], [6]))

    def test_without_silence(self):
        for seed in range(60):
            chance = random.Random(seed)
            line, policy = random_timeline(chance), random_policy(chance)
            schedule = sorted([chance.randrange(12) for _ in range(8)])
            for grace in GRACES:
                self.assertEqual(told(line, policy, schedule), told_silent(line, policy, grace, schedule, []))
                silence = sorted([chance.randrange(12) for _ in range(5)])
                self.assertEqual(plain_silent(line, policy, grace, schedule, silence), told_silent(line, policy, grace, schedule, silence))

    def check(self, line, policy, grace, until):
        best = 0
        for marks in product((0, 1, 2), repeat=until + 1):
            schedule, silence = [at for at, mark in enumerate(marks) if mark], [at for at, mark in enumerate(marks) if mark == 2]
            for moment, row in zip(schedule, told_silent(line, policy, grace, schedule, silence)):
                if row is not None:
                    best = max(best, stale_by(line, moment, row[0]))
        self.assertEqual(best, longest_stale(line, policy, grace, until))
        run = stale_run(line, policy, grace, until)
        self.assertTrue(judge_stale_run(line, policy, grace, until, run))
        schedule, silence, moment = run
        self.assertEqual(best, stale_by(line, moment, plain_silent(line, policy, grace, schedule, silence)[-1][0]))
        self.assertTrue(schedule[-1] == moment <= until)

    def test_all_schedules_and_plans(self):
        for seed in range(100):
            chance = random.Random(seed)
            self.check(random_timeline(chance, until=6, most_age=2), random_policy(chance), chance.choice(GRACES), chance.randrange(7))
        for line in [[(0, 2, "a"), (2, 1, "b"), (5, 1, "a")], [(0, 2, "a"), (1, 0, "b"), (2, 2, "a"), (3, 0, "c")], [(0, 0, "a"), (3, 9, "b")], [(0, 1, "a")]]:
            for policy in [(0, 1), (2, 3)]:
                for grace in GRACES:
                    self.check(line, policy, grace, 6)

    def test_longest_by_hand(self):
        wanted = [(0, 200, 9), (5, 200, 14), (5, 113, 14), (5, 112, 13), (5, 99, 0), (5, 100, 1), (None, 200, 101), (None, 10 ** 9, 10 ** 9 - 99), (10 ** 9, 10 ** 10, 10 ** 9 + 9)]
        for grace, until, stale in wanted:
            self.assertEqual(stale, longest_stale(LINE, (0, 60), grace, until))
            self.assertTrue(judge_stale_run(LINE, (0, 60), grace, until, stale_run(LINE, (0, 60), grace, until)))
        # A value that comes again is stale up to then alone.
        self.assertEqual(10, longest_stale([(0, 50, "a"), (10, 0, "b"), (20, 1, "a")], (0, 60), None, 10 ** 6))
        self.assertEqual(10, longest_stale([(0, 50, "a"), (10, 50, "b"), (20, 50, "a")], (0, 15), 0, 22))

    def test_zero_lives(self):
        self.assertEqual(0, longest_stale([(0, 0, "a"), (5, 0, "b")], (9, 9), None, 100))
        self.assertTrue(judge_stale_run([(0, 0, "a"), (5, 0, "b")], (9, 9), None, 100, ([7], [], 7)))
        self.assertFalse(judge_stale_run([(0, 0, "a"), (5, 0, "b")], (9, 9), None, 100, ([7], [7], 7)))


class JudgeTest(unittest.TestCase):
    def test_one_thing_changed(self):
        right = ([99, 113], [109, 113], 113)
        judge = {"timeline": LINE, "policy": (0, 60), "grace": 5, "until": 200}
        self.assertTrue(judge_stale_run(**judge, value=right))
        for value in [([99, 100, 113], [113], 113), ([99, 113, 113], [113], 113), ([99, 99, 113], [0, 113, 113, 10 ** 9], 113), ([0, 99, 113], [113], 113)]:
            self.assertTrue(judge_stale_run(**judge, value=value))
        wrong = [([98, 113], [113], 113), ([99, 114], [114], 114), ([99, 112], [112], 112), ([99, 113], [], 113), ([99, 113], [113], 112), ([99], [113], 99), ([], [], 113),
                 ([113, 99], [113], 113), ([99, 113], [113, 109], 113), ([99, 113], [113]), ([99, 113], [113], 113, 0), [[99, 113], [113], 113], ((99, 113), [113], 113),
                 ([99, 113], (113,), 113), ([99, 113], [113], None), ([99, 113], [99, 113], 113), ([99, 109, 113], [113], 113), ([99, 113, 114], [113], 113), ([True, 113], [113], 113)]
        for value in wrong + NOTHING_AT_ALL:
            self.assertFalse(judge_stale_run(**judge, value=value))
        for at in range(3):
            for value in NOTHING_AT_ALL:
                self.assertFalse(judge_stale_run(**judge, value=right[:at] + (value,) + right[at + 1:]))
        self.assertFalse(judge_stale_run(LINE, (0, 60), 5, 112, right))
        self.assertFalse(judge_stale_run(LINE, (0, 60), 6, 200, right))
        self.assertTrue(judge_stale_run([(0, 1, "a")], (0, 1), 0, 1, ([1], [], 1)))
        self.assertFalse(judge_stale_run([(0, 1, "a")], (0, 1), 0, 1, ([1], [], True)))


class BoundsTest(unittest.TestCase):
    def test_by_hand(self):
        rows = [(10, (30, 60), 5, 34), (10, (0, 60), None, None), (0, (30, 60), 5, 0), (0, (30, 60), None, 0), (1, (0, 60), 0, 0), (1, (0, 60), 1, 1), (10 ** 9, (0, 60), 0, 59),
                (100, (0, 10 ** 9), 10 ** 9, 10 ** 9 + 99)]
        for age, policy, grace, wanted in rows:
            self.assertEqual(wanted, stale_bound(age, policy, grace))
            self.assertEqual(wanted in (None, 0), worst_timeline(age, policy, grace) is None)

    def test_fact_s1(self):
        for age in range(5):
            for policy in [(0, 1), (0, 3), (2, 4), (3, 3)]:
                for grace in GRACES:
                    bound = stale_bound(age, policy, grace)
                    lines = [[(0, one, "a"), (change, other, "b")] for one in range(age + 1) for other in range(age + 1) for change in (1, 3)]
                    found = max([longest_stale(line, policy, grace, 40) for line in lines])
                    self.assertEqual(found, bound if bound is not None else max(found, 37))
                    worst = worst_timeline(age, policy, grace)
                    self.assertEqual(bound in (None, 0), worst is None)
                    if worst is not None:
                        line, schedule, silence = worst
                        self.assertEqual(2, len(line))
                        self.assertTrue(all([row[1] <= age for row in line]))
                        last = told_silent(line, policy, grace, schedule, silence)[-1]
                        self.assertEqual(bound, staleness(line, schedule[-1], last[0]))
                        self.assertEqual(bound, longest_stale(line, policy, grace, schedule[-1]))
                        if grace == 0:
                            self.assertIn(last[0], may_tell(line, policy, schedule[-1]))
