"""A cache that asks its source: what is told, may be told, and for how long."""

import random
import unittest

from rootward.cacheruns import in_force, may_tell, schedule_for, settled, staleness, told
from rootward.errors import InvalidMoment, InvalidPolicy, InvalidSchedule, InvalidTimeline, InvalidValue
from tests.manners import check_refused
from tests.plaincaches import force, lasting, random_policy, random_timeline, stale_by
from tests.samples import NOTHING_AT_ALL
from tests.test_caches import NO_MOMENTS, NO_POLICIES

LINE = [(0, 10, "old"), (100, 10, "new")]
NO_TIMELINES = [one for one in NOTHING_AT_ALL] + [
    tuple(LINE), [(1, 10, "old")], [(0, 10, "old"), (0, 10, "new")], [(0, 10, "old"), (5, 1, "new"), (4, 1, "b")], [[0, 10, "old"]], [(0, 10)], [(0, 10, "old", 1)],
    [(0, 10, "")], [(0, 10, "Old")], [(0, 10, "old1")], [(0, 10, "a" * 9)], [(0, 10, "a\n")], [(0, 10, ("rows", "a"))], [(0, 10, None)], [(0, -1, "old")], [(0, True, "old")],
    [(False, 1, "old")], [(0, "1", "old")], [(0, None, "old")], [("0", 1, "old")], LINE + [None], LINE + [(True, 1, "b")], LINE + [(None, 1, "b")], [(0, 10, "old"), (True, 1, "b")], LINE + [(200, 1, 5)], {0: (10, "old")}]
NO_SCHEDULES = [one for one in NOTHING_AT_ALL if one != []] + [[-1], [True], [0, 5, 4], (0,), [None], ["0"], [[0]], {0: 1}, [0, 1, None], 5, range(3)]


class WrongArgumentsTest(unittest.TestCase):
    def test_timelines(self):
        for value in NO_TIMELINES:
            for call in [lambda: in_force(value, None), lambda: staleness(value, None, 5), lambda: told(value, None, None), lambda: may_tell(value, None, None),
                         lambda: schedule_for(value, None, None, 5), lambda: settled(value, None)]:
                check_refused(self, InvalidTimeline, value, call)

    def test_policies_moments_schedules(self):
        for value in NO_POLICIES:
            for call in [lambda: told(LINE, value, None), lambda: may_tell(LINE, value, None), lambda: schedule_for(LINE, value, None, 5), lambda: settled(LINE, value)]:
                check_refused(self, InvalidPolicy, value, call)
        for value in NO_MOMENTS:
            for call in [lambda: in_force(LINE, value), lambda: staleness(LINE, value, 5), lambda: may_tell(LINE, (0, 9), value), lambda: schedule_for(LINE, (0, 9), value, 5)]:
                check_refused(self, InvalidMoment, value, call)
        for value in NO_SCHEDULES:
            check_refused(self, InvalidSchedule, value, lambda: told(LINE, (0, 9), value))

    def test_values(self):
        for value in NOTHING_AT_ALL + ["", "Old", "b", ("old",), ["old"]]:
            check_refused(self, InvalidValue, value, lambda: staleness(LINE, 100, value))
            self.assertIsNone(schedule_for(LINE, (0, 9), 100, value))
        with self.assertRaises(InvalidValue) as caught:
            staleness(LINE, 99, "new")
        self.assertEqual("new", caught.exception.value)


class TimelinesTest(unittest.TestCase):
    def test_by_hand(self):
        line = [(0, 5, "a"), (10, 0, "b"), (20, 5, "a"), (30, 6, "a"), (40, 5, "c")]
        self.assertEqual([line[0], line[0], line[1], line[3], line[4], line[4]], [in_force(line, moment) for moment in [0, 9, 10, 39, 40, 10 ** 9]])
        rows = [(0, "a", 0), (9, "a", 0), (10, "a", 1), (19, "a", 10), (20, "a", 0), (39, "a", 0), (40, "a", 1), (19, "b", 0), (50, "b", 31), (40, "c", 0), (10 ** 9, "c", 0)]
        for moment, value, wanted in rows:
            self.assertEqual(wanted, staleness(line, moment, value))

    def test_told_by_hand(self):
        line = [(0, 5, "a"), (10, 0, "b"), (20, 5, "c")]
        self.assertEqual([("a", 5), ("a", 5), ("a", 4), ("a", 1), ("a", 5), ("a", 1), ("b", 0), ("b", 0), ("c", 5)], told(line, (0, 9), [0, 0, 1, 4, 9, 13, 14, 14, 20]))
        self.assertEqual([("a", 3), ("a", 1), ("b", 0), ("c", 3), ("c", 3)], told(line, (0, 3), [9, 11, 12, 20, 23]))
        self.assertEqual([("a", 7)], told(line, (7, 9), [0]))
        self.assertEqual([], told(line, (7, 9), []))

    def test_example(self):
        self.assertEqual([["new", "old"], ["new"], 109, 129], [may_tell(LINE, (0, 60), 105), may_tell(LINE, (0, 60), 109), settled(LINE, (0, 60)), settled(LINE, (30, 60))])
        self.assertEqual([["new", "old"], ["new"]], [may_tell(LINE, (30, 60), moment) for moment in [128, 129]])
        self.assertEqual([[105], None, None], [schedule_for(LINE, (0, 60), 105, "new"), schedule_for(LINE, (0, 60), 109, "old"), schedule_for(LINE, (0, 60), 99, "new")])

    def test_limits(self):
        line = [(at * 10 ** 9, 10 ** 9, "abcdefgh"[at]) for at in range(8)]
        self.assertEqual([("a", 10 ** 9)] * 40, told(line, (0, 10 ** 9), [5] * 40))
        self.assertEqual(["g", "h"], may_tell(line, (0, 10 ** 9), 8 * 10 ** 9 - 2))
        self.assertEqual(8 * 10 ** 9 - 1, settled(line, (0, 10 ** 9)))


class AllSchedulesTest(unittest.TestCase):
    MOMENTS = 9

    def check(self, line, policy):
        tellable = {moment: {} for moment in range(self.MOMENTS)}
        for bits in range(1 << self.MOMENTS):
            schedule = [moment for moment in range(self.MOMENTS) if bits >> moment & 1]
            value, until, found = None, 0, []
            for moment in schedule:
                if moment >= until:
                    _, age, value = force(line, moment)
                    until = moment + lasting(policy, age)
                found.append((value, until - moment))
                tellable[moment][value] = True
            self.assertEqual(found, told(line, policy, schedule))
        for moment, values in tellable.items():
            self.assertEqual(sorted(values), may_tell(line, policy, moment))
            for value in ["a", "b", "c", "d"]:
                schedule = schedule_for(line, policy, moment, value)
                self.assertEqual(value in values, schedule is not None)
                if schedule is not None:
                    self.assertEqual((moment, value), (schedule[-1], told(line, policy, schedule)[-1][0]))
                    # Fact K2: one moment ahead of it is enough.
                    self.assertLessEqual(len(schedule), 2)
                self.assertEqual(value in [row[2] for row in line if row[0] <= moment], stale_by(line, moment, value) is not None)
                if stale_by(line, moment, value) is not None:
                    self.assertEqual(stale_by(line, moment, value), staleness(line, moment, value))
        self.check_settled(line, policy)

    def check_settled(self, line, policy):
        at, last = settled(line, policy), line[-1][2]
        for moment in range(at, at + 20):
            self.assertEqual([last], may_tell(line, policy, moment))
        if at > 0:
            self.assertNotEqual([last], may_tell(line, policy, at - 1))

    def test_by_chance(self):
        for seed in range(60):
            chance = random.Random(seed)
            self.check(random_timeline(chance, until=self.MOMENTS), random_policy(chance))

    def test_values_that_come_again(self):
        for line in [[(0, 3, "a")], [(0, 3, "a"), (2, 1, "a")], [(0, 3, "a"), (2, 0, "b"), (3, 3, "a")], [(0, 0, "b"), (1, 3, "a"), (2, 3, "b"), (3, 0, "a"), (4, 3, "b")]]:
            for policy in [(0, 1), (0, 3), (2, 2), (3, 9)]:
                self.check(line, policy)
        self.assertEqual(0, settled([(0, 3, "a"), (2, 9, "a")], (0, 9)))
