"""Short names: tries, and what of them is found."""

import unittest
from itertools import permutations, product

from rootward.errors import InvalidForest, InvalidKind, InvalidName, InvalidSearch
from rootward.forests import plain
from rootward.labels import first, ordered
from rootward.questions import asked_for, tries, unlike_tries
from tests.manners import check_refused
from tests.sampleforests import NET, SHOP, WWW, random_forest, shop_forest
from tests.samples import NOTHING_AT_ALL, small_names

NO_SEARCHES = [one for one in NOTHING_AT_ALL] + [(13, []), (-1, []), (True, []), ("1", []), (None, []), (1, ()), (1, [NET, NET]), (1, [NET, ("*",)]), (1, ["net"]), (1, [NET], 1), [1, [NET]],
                                                (1,), (1, None), (1, {NET: True}), (1, [None]), (1, [["net"]])]
NO_SEARCHES.extend([(value, [NET]) for value in NOTHING_AT_ALL] + [(1, [NET, value]) for value in NOTHING_AT_ALL] + [(1, value) for value in NOTHING_AT_ALL if value not in [[], [("a",)]]])


def plain_tries(search, name):
    """The tries of a name, one by one."""
    dots, ends = search
    rows = [name + end for end in ends]
    rows = [name] + rows if len(name) >= dots else rows + [name]
    return [row for at, row in enumerate(rows) if row not in rows[:at]]


class TriesTest(unittest.TestCase):
    def test_by_hand(self):
        rows = [((1, [NET, ("org",)]), ("a",), [("a",), ("a", "net"), ("a", "org")]), ((2, [NET, ("org",)]), ("a",), [("a", "net"), ("a", "org"), ("a",)]),
                ((2, [NET]), ("a", "b"), [("a", "b"), ("a", "b", "net")]), ((2, [NET]), ("a", "b", "c"), [("a", "b", "c"), ("a", "b", "c", "net")]), ((0, []), (), [()]), ((5, []), (), [()]),
                ((5, [NET, (), SHOP]), ("a",), [("a", "net"), ("a",), ("a",) + SHOP]), ((0, [NET, ()]), ("a",), [("a",), ("a", "net")]), ((12, [NET]), ("a",) * 12, [("a",) * 12, ("a",) * 12 + NET]),
                ((12, [NET]), ("a",) * 11, [("a",) * 11 + NET, ("a",) * 11])]
        for search, name, wanted in rows:
            self.assertEqual(wanted, tries(search, name))
            self.assertEqual(wanted, plain_tries(search, name))

    def test_two_searches(self):
        names = ordered(small_names(["0", "a"], 4))
        ends = [[], [NET], [()], [NET, ()], [(), NET], [NET, SHOP], [SHOP, NET], [NET, (), SHOP]]
        searches = [(dots, row) for dots in range(5) for row in ends]
        for one, other in product(searches, repeat=2):
            unlike = [name for name in names if plain_tries(one, name) != plain_tries(other, name)]
            self.assertEqual(first(unlike), unlike_tries(one, other))

    def test_by_hand_two(self):
        rows = [((1, [NET]), (3, [NET]), ("0",)), ((0, [NET]), (3, [NET]), ()), ((2, [NET]), (12, [NET]), ("0", "0")), ((11, [NET]), (12, [NET]), ("0",) * 11), ((3, []), (9, []), None),
                ((3, [()]), (9, []), None), ((0, [NET]), (0, [NET, ()]), None), ((3, [NET]), (3, [NET, ()]), None), ((3, [(), NET]), (0, [NET]), None), ((3, [(), NET]), (3, [NET]), ()),
                ((12, [NET]), (12, [("org",)]), ())]
        for one, other, wanted in rows:
            self.assertEqual(wanted, unlike_tries(one, other))
            self.assertEqual(wanted, unlike_tries(other, one))

    def test_sequence_of_ends(self):
        for order in permutations([NET, SHOP, ("org",)]):
            self.assertEqual(None if list(order) == [NET, SHOP, ("org",)] else (), unlike_tries((2, [NET, SHOP, ("org",)]), (2, list(order))))


class AskedTest(unittest.TestCase):
    def test_by_hand(self):
        forest = shop_forest()
        rows = [((1, [SHOP]), ("www",), (1, ("found", 9, (9,)))), ((2, [NET, SHOP]), ("www",), (1, ("found", 9, (9,)))), ((2, [SHOP, NET]), ("www",), (0, ("found", 9, (9,)))),
                ((0, [NET]), ("www",), None), ((0, []), WWW, (0, ("found", 9, (9,)))), ((5, [NET, ("org",)]), WWW, (2, ("found", 9, (9,)))), ((0, []), ("x",), None)]
        for search, name, wanted in rows:
            self.assertEqual(wanted, asked_for(search, forest, name, "addr"))
        self.assertIsNone(asked_for((1, [SHOP]), forest, ("www",), "text"))

    def test_broken_and_long_tries_are_passed_over(self):
        for seed in range(60):
            forest = random_forest(seed)
            apexes = [zone.apex for zone in forest.zones]
            for name in [("w",), ("t",), ("x",), ("q",), ("n",), ("a", "t")]:
                for kind in ["addr", "alias", "text"]:
                    for search in [(0, apexes), (3, apexes[::-1])]:
                        found = [(index, plain(forest, one, kind)[0]) for index, one in enumerate(plain_tries(search, name))]
                        found = [row for row in found if row[1][0] == "found"]
                        self.assertEqual(found[0] if found else None, asked_for(search, forest, name, kind))


class WrongArgumentsTest(unittest.TestCase):
    def test_each(self):
        forest = shop_forest()
        for value in NO_SEARCHES:
            for call in [lambda: tries(value, None), lambda: unlike_tries(value, None), lambda: unlike_tries((1, [NET]), value), lambda: asked_for(value, None, None, None)]:
                check_refused(self, InvalidSearch, value, call)
        for value in NOTHING_AT_ALL + [("*",), ("*", "a"), "a"]:
            check_refused(self, InvalidName, value, lambda: tries((1, [NET]), value))
            check_refused(self, InvalidName, value, lambda: asked_for((1, [NET]), forest, value, None))
            check_refused(self, InvalidForest, value, lambda: asked_for((1, [NET]), value, None, None))
            check_refused(self, InvalidKind, value, lambda: asked_for((1, [NET]), forest, WWW, value))
