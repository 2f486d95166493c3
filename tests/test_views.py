"""Views, for all addresses."""

import random
import unittest

from rootward.errors import InvalidMachines, InvalidViews
from rootward.views import idle_views, merged_views, unlike_view, view_of, view_ranges
from tests.samples import NOTHING_AT_ALL, nested

LAST = 2 ** 32 - 1


def random_views(seed):
    """Views that a number decides, mostly of small addresses, some at the end."""
    chance = random.Random(seed)
    views = []
    for _ in range(chance.randrange(7)):
        low = chance.randrange(12) if chance.random() < 0.8 else LAST - chance.randrange(12)
        high = min(LAST, low + chance.choice([0, 0, 1, 2, 5])) if chance.random() < 0.8 else LAST
        views.append((low, high, chance.choice(["in", "out", "x"])))
    return views


def plain_view(views, machine):
    return next((view for low, high, view in views if low <= machine <= high), None)


ADDRESSES = list(range(30)) + list(range(LAST - 29, LAST + 1))


class ViewsTest(unittest.TestCase):
    def test_by_chance(self):
        for seed in range(300):
            views = random_views(seed)
            told = {machine: plain_view(views, machine) for machine in ADDRESSES}
            self.assertEqual(told, {machine: view_of(views, machine) for machine in ADDRESSES})
            used = {next((index for index, row in enumerate(views) if row[0] <= machine <= row[1]), None) for machine in ADDRESSES}
            self.assertEqual([index for index in range(len(views)) if index not in used], idle_views(views))
            self.check_ranges(views)
            other = random_views(seed + 1) if seed % 2 else views[:-1]
            unlike = [machine for machine in ADDRESSES if plain_view(views, machine) != plain_view(other, machine)]
            self.assertEqual(min(unlike, default=None), unlike_view(views, other))
            self.assertIsNone(unlike_view(views, merged_views(views)))

    def check_ranges(self, views):
        ranges = view_ranges(views)
        self.assertEqual([0, LAST], [ranges[0][0], ranges[-1][1]])
        for (_, high, view), (low, _, other) in zip(ranges, ranges[1:]):
            self.assertEqual(high + 1, low)
            self.assertNotEqual(view, other)
        for low, high, view in ranges:
            self.assertLessEqual(low, high)
            for machine in [machine for machine in ADDRESSES if low <= machine <= high] + [low, high]:
                self.assertEqual(plain_view(views, machine), view)
        self.assertEqual([row for row in ranges if row[2] is not None], merged_views(views))

    def test_no_views(self):
        self.assertEqual([None, [], [(0, LAST, None)], [], None], [view_of([], 5), idle_views([]), view_ranges([]), merged_views([]), unlike_view([], [])])

    def test_by_hand(self):
        views = [(0, 9, "in"), (5, 20, "out"), (6, 8, "x"), (21, 21, "out"), (LAST, LAST, "end")]
        self.assertEqual([2], idle_views(views))
        self.assertEqual([(0, 9, "in"), (10, 21, "out"), (22, LAST - 1, None), (LAST, LAST, "end")], view_ranges(views))
        self.assertEqual([(0, 9, "in"), (10, 21, "out"), (LAST, LAST, "end")], merged_views(views))
        self.assertEqual([LAST, 0, 10, None], [unlike_view(views, views[:-1]), unlike_view(views, []), unlike_view(views, views[:1]), unlike_view(views, views[:2] + views[3:])])
        self.assertEqual([(0, LAST, "in")], view_ranges([(0, 5, "in"), (6, LAST, "in")]))
        self.assertEqual([(0, LAST, "in")], view_ranges([(3, LAST, "in"), (0, 5, "in")]))
        self.assertEqual([1], idle_views([(0, LAST, "in"), (0, LAST, "in")]))
        self.assertEqual([2], idle_views([(0, 4, "a"), (6, 9, "b"), (1, 4, "c"), (0, 9, "d")]))
        self.assertEqual([2], idle_views([(0, 4, "a"), (5, 9, "b"), (2, 7, "c"), (0, 10, "d")]))
        self.assertEqual([], idle_views([(0, 0, "a"), (LAST, LAST, "a"), (1, LAST - 1, "a")]))

    def test_refused_views(self):
        wrong = [
            ((0, 9, "in"),), [[0, 9, "in"]], [(9, 0, "in")], [(0, 9)], [(0, 9, "in", 1)], [(True, 9, "in")], [(0, True, "in")], [(-1, 9, "in")], [(0, 2 ** 32, "in")],
            [("0", 9, "in")], [(0, 9, "")], [(0, 9, "abcdefghi")], [(0, 9, "In")], [(0, 9, "a1")], [(0, 9, None)], [(0, 9, ["in"])], [(0, 9, "in"), None], {0: (0, 9, "in")},
            (0, 9, "in"), [(None, 9, "in")], [(0, [9], "in")]]
        calls = [lambda views: view_of(views, None), idle_views, view_ranges, merged_views, lambda views: unlike_view(views, None), lambda views: unlike_view([], views)]
        for value in wrong + [value for value in NOTHING_AT_ALL if value != []] + [nested(list, 99)]:
            for call in calls:
                with self.assertRaises(InvalidViews) as caught:
                    call(value)
                self.assertEqual(value, caught.exception.value)
        for value in NOTHING_AT_ALL + ["1", [1]]:
            with self.assertRaises(InvalidMachines) as caught:
                view_of([(0, 9, "in")], value)
            self.assertEqual(value, caught.exception.value)
        self.assertEqual(["abcdefgh", None], [view_of([(0, 0, "abcdefgh")], machine) for machine in [0, LAST]])
