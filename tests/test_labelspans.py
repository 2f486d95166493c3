"""Labels between two ends, against labels that are gone through one by one."""

import random
import unittest
from bisect import bisect_left, bisect_right

from rootward.labels import labels_of, names_of
from rootward.labelspans import count_in_spans, first_in_span
from tests.test_allgaps import LABELS

ENDS = [None, "*", "0", "9", "a", "m", "y", "z", "00", "0z", "a-0", "a-z", "a0", "az", "az-0", "b", "za-a", "zz", "zz-y", "zzy", "zzz",
        "0" * 20, "z" * 20, "z" * 19 + "y", "a" * 19 + "b", "0--0", "z" + "-" * 18 + "z", "x--0"]


class SpansTest(unittest.TestCase):
    def within(self, lower, upper, length):
        """Return the labels of a length between two ends, in order."""
        listed = sorted(LABELS[length])
        low = 0 if lower is None else bisect_right(listed, lower)
        return listed[low:] if upper is None else listed[low:max(low, bisect_left(listed, upper))]

    def check(self, lower, upper):
        expected = []
        for length in [1, 2, 3]:
            found = self.within(lower, upper, length)
            expected.extend(found[:1])
            # Two labels of one sign have the room of one with three signs.
            beneath = 36 * len(self.within(lower, upper, 1)) if length == 3 else 0
            self.assertEqual(len(found) + beneath, count_in_spans([((), lower, upper)], length + 2), (lower, upper, length))
        found = first_in_span((("net",), lower, upper))
        if expected:
            self.assertEqual((expected[0], "net"), found, (lower, upper))
        elif found is not None:
            label = found[0]
            self.assertGreater(len(label), 3)
            self.assertTrue((lower is None or lower < label) and (upper is None or label < upper), (lower, upper, label))
        return found

    def test_all_ends(self):
        for lower in ENDS:
            for upper in [None] + ENDS[1:]:
                self.check(lower, upper)

    def test_by_chance(self):
        chance = random.Random(2)
        labels = LABELS[1] + LABELS[2] + LABELS[3][::7]
        for _ in range(150):
            self.check(chance.choice(labels), chance.choice(labels + [None] * 500))

    def test_long_labels(self):
        a, z = "a" * 19, "z" * 19
        for lower, upper, label in [
                (a + "a", a + "c", a + "b"), (a + "a", a + "b", None), (z + "y", None, z + "z"), (z + "z", None, None), ("z", "z" + "-" * 18 + "1", "z" + "-" * 18 + "0"),
                ("z", "z" + "-" * 18 + "0", None), ("z", "z" + "-" * 17 + "1", "z" + "-" * 17 + "0"), (a + "z", "aab", "aaab"), ("za-a", None, "zb"),
                ("zz-z", None, "zz0"), (None, "0", None), ("*", "0", None), ("0", "*", None), (None, "*", None)]:
            expected = None if label is None else (label, "net")
            self.assertEqual(expected, first_in_span((("net",), lower, upper)), (lower, upper))
        self.assertEqual([0, 1, 0], [count_in_spans([((), a + "a", a + "c")], size) for size in [21, 22, 23]])
        self.assertEqual(labels_of(20), count_in_spans([((), None, None)], 22) - self.deeper(22))

    def deeper(self, size):
        """Return how many names of a size have more than one label."""
        return names_of(size) - labels_of(size - 2)
