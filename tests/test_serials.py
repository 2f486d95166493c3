"""Serials on their circle, and ways along it."""

import unittest
from unittest import mock

from rootward import serials
from rootward.errors import InvalidNumber, InvalidSerial
from rootward.serials import fewest_steps, further, judge_steps, newer, newest, steps
from tests.samples import NOTHING_AT_ALL, Stranger, nested

HALF = 2 ** 31
LAST = 2 ** 32 - 1
STARTS = [0, 1, 5, HALF - 1, HALF, HALF + 1, LAST - 1, LAST]
NO_SERIALS = NOTHING_AT_ALL + ["0", (0,), [0], 2 ** 33, -HALF, True, False]


def is_way(one, other, missed, way):
    """Return whether a list of serials is a way, serial by serial."""
    full = [one] + way
    for at in range(1, len(full)):
        for ahead in full[max(0, at - missed - 1):at]:
            if not 1 <= (full[at] - ahead) % 2 ** 32 <= HALF - 1:
                return False
    return full[-1] == other


class NewerTest(unittest.TestCase):
    def test_around_the_circle(self):
        for start in STARTS:
            for steps_on, expected in [(0, False), (1, True), (2, True), (HALF - 1, True), (HALF, False), (HALF + 1, False),
                                       (LAST - 1, False), (LAST, False)]:
                self.assertIs(expected, newer((start + steps_on) % 2 ** 32, start))

    def test_never_both(self):
        for one in STARTS:
            for other in STARTS:
                both = [newer(one, other), newer(other, one)]
                self.assertEqual(1 if one != other and (one - other) % 2 ** 32 != HALF else 0, both.count(True))

    def test_further(self):
        for start in STARTS:
            for number in [0, 1, 7, HALF, LAST, 2 ** 32, 2 ** 32 + 5, 10 ** 59]:
                self.assertEqual((start + number) % 2 ** 32, further(start, number))
        self.assertEqual([0, 1, LAST], [further(LAST, 1), further(LAST, 2), further(LAST, 2 ** 32)])

    def test_newest(self):
        for listed, expected in [
                ([], None), ([5], 5), ([5, 5], 5), ([5, 7, 5], 7), ([LAST, 0, 1], 1), ([0, HALF], None), ([0, HALF - 1], HALF - 1),
                ([0, HALF + 1], 0), ([1, HALF, HALF + 1], None), ([0, 2 ** 30, HALF, HALF + 2 ** 30], None),
                ([0, 2 ** 30, HALF + 2], None), ([2 ** 30, HALF], HALF), ([0, 2 ** 30, 2 ** 30 * 2 - 1], HALF - 1)]:
            self.assertEqual(expected, newest(listed))
            self.assertEqual(expected, newest(listed[::-1]))
            self.assertEqual(expected, newest(listed * 3))
            for more in [7, HALF, LAST]:
                moved = [further(serial, more) for serial in listed]
                self.assertEqual(None if expected is None else further(expected, more), newest(moved))


class StepsTest(unittest.TestCase):
    def check(self, one, distance, missed):
        """Check the ways of a distance, and return how many steps they have."""
        other = (one + distance) % 2 ** 32
        number = fewest_steps(one, other, missed)
        way = steps(one, other, missed)
        self.assertEqual(number, len(way))
        self.assertTrue(judge_steps(one, other, missed, way))
        if number < 100:
            self.assertTrue(is_way(one, other, missed, way))
        for wrong in [way + way[-1:], way + [one], [one] + way, way[:-1], tuple(way), way[1:]]:
            if wrong != way:
                self.assertFalse(judge_steps(one, other, missed, wrong))
        return number

    def test_by_hand(self):
        for distance, missed, number in [
                (0, 0, 0), (0, 1000, 0), (1, 0, 1), (1, 1000, 1), (HALF - 1, 0, 1), (HALF - 1, 1000, 1), (HALF, 0, 2), (HALF, 1, 3),
                (HALF, 2, 4), (HALF, 999, 1001), (HALF, 1000, 1002), (HALF + 1, 0, 2), (HALF + 1, 1, 3), (HALF + 1, 2, 4),
                (LAST - 1, 0, 2), (LAST, 0, 3), (LAST - 2, 1, 3), (LAST - 1, 1, 4), (LAST, 1, 5), (LAST, 2, 7),
                (LAST - 1, 999, 2000), (LAST, 999, 2001), (LAST - 2, 999, 1999), (LAST, 1000, 2003)]:
            for one in [0, 5, HALF, LAST]:
                self.assertEqual(number, self.check(one, distance, missed), (distance, missed))

    def test_small_circles(self):
        # On a small circle all ways can be gone through; the rules are the same.
        for length in [8, 16, 32]:
            with mock.patch.object(serials, "ROUND", length), mock.patch.object(serials, "REACH", length // 2 - 1):
                for missed in range(min(5, length // 2 - 1)):
                    depths = self.depths(length, missed)
                    for distance in range(length):
                        self.assertEqual(depths[distance], fewest_steps(3, (3 + distance) % length, missed), (length, missed, distance))
                        way = steps(3, (3 + distance) % length, missed)
                        self.assertEqual(depths[distance], len(way))
                        self.assertTrue(judge_steps(3, (3 + distance) % length, missed, way))

    def depths(self, length, missed):
        """Return the fewest steps to each serial of a small circle, by going through all ways from 0."""
        layer, seen, found = [(0,)], {(0,)}, {0: 0}
        depth = 0
        while len(found) < length:
            depth += 1
            reached = []
            for way in layer:
                for serial in range(length):
                    if all([1 <= (serial - ahead) % length <= length // 2 - 1 for ahead in way]):
                        found.setdefault(serial, depth)
                        kept = (way + (serial,))[-missed - 1:]
                        if kept not in seen:
                            seen.add(kept)
                            reached.append(kept)
            layer = reached
        return found

    def test_ways_of_others(self):
        quarter = 2 ** 30
        for one in [0, HALF, LAST - 5]:
            for distance, missed, more, expected in [
                    (HALF, 0, [1, HALF], True), (HALF, 0, [HALF - 1, HALF], True), (HALF, 0, [quarter, HALF], True),
                    (HALF, 1, [1, HALF], False), (HALF, 1, [1, HALF - 1, HALF], True), (HALF, 1, [quarter, quarter + 1, HALF], True),
                    (HALF, 1, [1, 2, HALF], True), (HALF, 1, [2, 1, HALF], False), (HALF + 1, 1, [1, 2, HALF + 1], False),
                    (HALF + 1, 1, [2, 3, HALF + 1], True), (HALF + 2, 1, [2, HALF, HALF + 2], False), (HALF, 1, [HALF - 2, HALF - 1, HALF], True), (HALF, 0, [HALF, HALF], False),
                    (HALF, 0, [0, HALF], False), (HALF, 0, [HALF, 0], False), (HALF, 0, [1, HALF + 1], False), (HALF, 0, [HALF], False),
                    (HALF, 0, [1, 2, HALF], False), (HALF, 0, [HALF + 1, HALF], False), (LAST, 0, [1, HALF, LAST], True),
                    (LAST, 0, [HALF, 1, LAST], False), (LAST, 0, [HALF - 1, LAST - 1, LAST], True), (1, 0, [1], True), (1, 9, [1], True),
                    (1, 0, [2], False), (1, 0, [], False), (0, 0, [], True), (0, 0, [0], False), (HALF, 2, [1, 2, HALF - 1, HALF], True),
                    (HALF, 2, [1, 3, HALF - 1, HALF], True), (HALF, 2, [1, 2, 3, HALF], True),
                    (HALF, 2, [2, 1, 3, HALF], False), (HALF + 2, 2, [1, 2, 3, HALF + 2], False), (HALF + 1, 2, [2, 3, HALF - 1, HALF + 1], True)]:
                slow = is_way(one, one + distance, missed, [one + number for number in more]) and len(more) == fewest_steps(0, distance, missed)
                way = [(one + number) % 2 ** 32 for number in more]
                self.assertEqual([expected, expected], [slow, judge_steps(one, (one + distance) % 2 ** 32, missed, way)], (distance, missed, more))

    def test_ways_that_are_none(self):
        for value in NOTHING_AT_ALL + [Stranger(), (1, HALF), {1: HALF}, "1", [[1, HALF]], nested(list, 100), [1] * 5000]:
            self.assertFalse(judge_steps(0, HALF, 0, value))
        for wrong in NO_SERIALS:
            self.assertFalse(judge_steps(0, HALF, 0, [wrong, HALF]))
            self.assertFalse(judge_steps(0, HALF, 0, [1, wrong]))
            self.assertFalse(judge_steps(0, 1, 0, [wrong]))
        self.assertFalse(judge_steps(1, 1, 0, ()))
        self.assertFalse(judge_steps(0, 1, 0, [True]))
        self.assertTrue(judge_steps(1, 1, 0, []))


class WrongTest(unittest.TestCase):
    def check(self, error, value, call):
        with self.assertRaises(error) as caught:
            call()
        self.assertEqual(value, caught.exception.value)

    def test_serials(self):
        for value in NO_SERIALS:
            for call in [newer, lambda one, other: fewest_steps(one, other, -1), lambda one, other: steps(one, other, -1),
                         lambda one, other: judge_steps(one, other, -1, None)]:
                self.check(InvalidSerial, value, lambda: call(value, ["later"]))
                self.check(InvalidSerial, value, lambda: call(LAST, value))
            self.check(InvalidSerial, value, lambda: further(value, -1))
            self.check(InvalidSerial, value, lambda: newest([0, value, ["later"]]))

    def test_numbers(self):
        for value in [-1, -10 ** 59]:
            self.check(InvalidNumber, value, lambda: further(0, value))
        for value in [-1, 1001, 10 ** 59, -10 ** 59]:
            for call in [lambda: fewest_steps(0, 0, value), lambda: steps(0, HALF, value), lambda: judge_steps(0, HALF, value, None)]:
                self.check(InvalidNumber, value, call)
        self.assertEqual([0, 1], [fewest_steps(3, 3, 1000), fewest_steps(3, 4, 1000)])
