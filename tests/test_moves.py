"""Moves: books of them, single steps, chases, and how a chase ends."""

import unittest

from rootward.errors import InvalidMove, InvalidName, InvalidNumber
from rootward.moves import Moves, chase, ending, judge_growth, moves_of, step
from tests import plainmoves
from tests.plainmoves import SOME, random_moves
from tests.samples import NOTHING_AT_ALL, Stranger, nested, zone_with

A, B, C, NET = ("a",), ("b",), ("c",), ("net",)
GROWING = Moves([("tree", ("x",), ("y", "x"))])
# Each label of `a1` is two of `a2` in the end, and so on: a chase of many steps.
DEEP = [("tree", (f"a{k}",), (f"a{k + 1}",) * 3) for k in range(1, 7)] + [("tree", ("a7",), ())]


def wrong_moves():
    """Return objects that are no moves."""
    found = list(NOTHING_AT_ALL)
    for word, name, target in [("alias", A, B), ("tree", A, B)]:
        found.extend([(word, name), (word, name, target, target), [word, name, target], (name, word, target)])
        for wrong in [None, "a", ["a"], ("*",), ("*", "a"), ("A",), ("a", "*"), (1,), 5, True, [], {}]:
            found.extend([(word, wrong, target), (word, name, wrong)])
    found.extend([(word, A, B) for word in ["server", "", "Alias", "trees", None, True, 0, [], {}, ("tree",), ["tree"], Stranger()]])
    return found


class BookTest(unittest.TestCase):
    def test_order(self):
        moves = [("tree", ("z", "a"), ()), ("alias", ("b",), ("a",)), ("tree", (), ("a",)), ("tree", ("a",), ("b",)),
                 ("alias", ("aa",), ("b",)), ("tree", ("a", "a"), ("c",))]
        names = [(), ("a",), ("a", "a"), ("z", "a"), ("aa",), ("b",)]
        self.assertEqual(names, [move[1] for move in Moves(moves).moves()])
        self.assertEqual(sorted(moves), sorted(Moves(moves).moves()))
        self.assertEqual([6, 0], [len(Moves(moves)), len(Moves([]))])
        self.assertEqual([], Moves([]).moves())

    def test_equality(self):
        moves = [("tree", A, B), ("alias", B, C)]
        self.assertTrue(Moves(moves) == Moves(moves[::-1]))
        self.assertFalse(Moves(moves) != Moves(moves[::-1]))
        for other in [[], moves[:1], [("alias", A, B), moves[1]], [("tree", A, C), moves[1]], moves + [("tree", C, A)]]:
            self.assertFalse(Moves(moves) == Moves(other))
            self.assertTrue(Moves(moves) != Moves(other))
        for value in NOTHING_AT_ALL + [moves, Moves(moves).moves()]:
            self.assertFalse(Moves(moves) == value)
            self.assertTrue(Moves(moves) != value)
        self.assertTrue(Moves([]) == Moves([]))

    def test_wrong_moves(self):
        good = [("tree", A, B), ("alias", B, C)]
        for value in wrong_moves():
            for at in range(3):
                with self.assertRaises(InvalidMove) as caught:
                    Moves(good[:at] + [value] + good[at:] + [["later"]])
                self.assertEqual(value, caught.exception.value)

    def test_one_with_a_name(self):
        good = ("tree", A, B)
        for again in [good, ("tree", A, C), ("alias", A, B)]:
            with self.assertRaises(InvalidMove) as caught:
                Moves([("alias", B, C), good, again, None])
            self.assertEqual(again, caught.exception.value)
            with self.assertRaises(InvalidMove) as caught:
                Moves([good, ["first"], again])
            self.assertEqual(["first"], caught.exception.value)

    def test_of_zones(self):
        net = zone_with(NET, [
            (("z", "net"), "alias", 5, ("w",)), (("a", "net"), "tree", 6, ("o",)), (("*", "net"), "alias", 7, ("v",)),
            (("a", "net"), "addr", 8, 9), (("b", "net"), "text", 8, "x")])
        org = zone_with(("org",), [(("org",), "tree", 5, ())])
        moves = [("tree", ("a", "net"), ("o",)), ("alias", ("z", "net"), ("w",)), ("tree", ("org",), ())]
        self.assertEqual(Moves(moves), moves_of([net, org]))
        self.assertEqual(Moves(moves), moves_of([org, net]))
        self.assertEqual(Moves([]), moves_of([]))
        self.assertEqual(Moves([]), moves_of([zone_with(NET, [(("*", "net"), "alias", 7, ("v",))])]))

    def test_of_zones_with_one_name(self):
        one = zone_with((), [(("c",), "alias", 5, A), (("a",), "alias", 5, A), (("b",), "alias", 5, A)])
        for targets in [(B, C), (A, A)]:
            other = zone_with((), [(("b",), "tree", 5, targets[0]), (("c",), "alias", 5, targets[1])])
            with self.assertRaises(InvalidMove) as caught:
                moves_of([one, other])
            self.assertEqual(("tree", ("b",), targets[0]), caught.exception.value)
            with self.assertRaises(InvalidMove) as caught:
                moves_of([other, one])
            self.assertEqual(("alias", ("b",), A), caught.exception.value)
        with self.assertRaises(InvalidMove) as caught:
            moves_of([one, one])
        self.assertEqual(("alias", ("a",), A), caught.exception.value)


class StepTest(unittest.TestCase):
    def test_aliases_and_trees(self):
        moves = Moves([
            ("tree", NET, ("org",)), ("tree", ("shop", "net"), ("s",)), ("alias", ("www", "net"), ("w", "w")),
            ("alias", ("a", "shop", "net"), ())])
        for name, expected in [
                (NET, None), ((), None), (("org",), None), (("x", "net"), ("x", "org")), (("shop", "net"), ("shop", "org")),
                (("x", "shop", "net"), ("x", "s")), (("y", "x", "shop", "net"), ("y", "x", "s")),
                (("www", "net"), ("w", "w")), (("x", "www", "net"), ("x", "www", "org")), (("a", "shop", "net"), ()),
                (("b", "a", "shop", "net"), ("b", "a", "s")), (("xshop", "net"), ("xshop", "org")), (("net", "x"), None)]:
            self.assertEqual(expected, step(moves, name))

    def test_alias_ahead_of_trees(self):
        for label in ["a", "net"]:
            moves = Moves([("tree", NET, ("org",)), ("tree", ("b", "net"), ("com",)), ("alias", (label, "b", "net"), C)])
            self.assertEqual(C, step(moves, (label, "b", "net")))
            self.assertEqual(("q", label, "com"), step(moves, ("q", label, "b", "net")))
            self.assertEqual(("b", "org"), step(moves, ("b", "net")))

    def test_tree_at_the_root(self):
        moves = Moves([("tree", (), A), ("tree", B, ())])
        self.assertEqual([None, ("b", "a"), ("c",), ("c", "a")], [step(moves, name) for name in [(), B, ("c", "b"), C]])
        self.assertEqual(("x",), step(Moves([("tree", (), ())]), ("x",)))
        self.assertEqual(("x",), step(Moves([("alias", (), ("x",))]), ()))
        self.assertIsNone(step(Moves([]), A))

    def test_by_chance(self):
        for seed in range(150):
            listed = random_moves(seed)
            moves = Moves(listed)
            for name in SOME:
                self.assertEqual(plainmoves.step(listed, name), step(moves, name))


class ChaseTest(unittest.TestCase):
    def test_steps(self):
        moves = Moves([("alias", A, B), ("alias", B, C)])
        for most, names in [(0, [A]), (1, [A, B]), (2, [A, B, C]), (3, [A, B, C]), (400, [A, B, C])]:
            self.assertEqual(names, chase(moves, A, most))
        self.assertEqual([C], chase(moves, C, 0))
        self.assertEqual([("q", "a")], chase(moves, ("q", "a"), 400))

    def test_names_that_come_again(self):
        ring = Moves([("alias", A, B), ("alias", B, A)])
        self.assertEqual([A, B, A, B, A], chase(ring, A, 4))
        self.assertEqual(401, len(chase(ring, A, 400)))
        self.assertEqual([C, C, C], chase(Moves([("alias", C, C)]), C, 2))

    def test_400_steps(self):
        names = chase(GROWING, ("k", "x"), 400)
        self.assertEqual([("k",) + ("y",) * many + ("x",) for many in range(401)], names)

    def test_numbers(self):
        for most in [-1, 401, -10 ** 59, 10 ** 59]:
            with self.assertRaises(InvalidNumber) as caught:
                chase(GROWING, A, most)
            self.assertEqual(most, caught.exception.value)


class EndingTest(unittest.TestCase):
    def check(self, moves, name):
        """Compare how a chase ends with the slow reading; return the word."""
        expected = plainmoves.chase(moves.moves(), name)[0]
        found = ending(moves, name)
        if expected[0] != "grows":
            self.assertEqual(expected, found)
        else:
            self.assertTrue(judge_growth(moves, name, found), (moves.moves(), name, found))
            self.assertTrue(plainmoves.shows_growth(moves.moves(), name, found))
        return found[0]

    def test_ends(self):
        moves = Moves([("tree", ("old",), ("new",)), ("tree", ("b", "new"), ()), ("alias", A, ("k", "b", "old"))])
        for name, last, steps in [(C, C, 0), (("old",), ("old",), 0), (("b", "old"), ("b", "new"), 1), (A, ("k",), 3),
                                  (("k", "b", "old"), ("k",), 2), (("a", "b", "new"), ("k",), 4)]:
            self.assertEqual(("ends", last, steps), ending(moves, name))
        self.assertEqual(("ends", (), 0), ending(Moves([]), ()))

    def test_many_steps(self):
        moves = Moves(DEEP + [("alias", ("z",), ("end",))])
        for many, steps in [(1, 1093), (2, 2186), (11, 12023)]:
            self.assertEqual(("ends", ("end",), steps + 1), ending(moves, ("z",) + ("a1",) * many))
        self.assertEqual(("ends", ("z", "z"), 12023), ending(moves, ("z", "z") + ("a1",) * 11))

    def test_rings(self):
        ring = Moves([("alias", A, B), ("alias", B, A), ("alias", C, A), ("tree", ("x",), ("x",)), ("tree", ("z",), ("x",))])
        for name, first, length in [(A, 0, 2), (B, 0, 2), (C, 1, 2), (("k", "x"), 0, 1), (("k", "z"), 1, 1)]:
            self.assertEqual(("ring", first, length), ending(ring, name))
        moves = Moves(DEEP + [("alias", ("z",), ("z", "a1", "a1"))])
        self.assertEqual(("ring", 9 * 1093, 2 * 1093 + 1), ending(moves, ("z",) + ("a1",) * 11))
        self.assertEqual(("ring", 0, 2 * 1093 + 1), ending(moves, ("z", "a1")))

    def test_ring_that_begins_where_it_is_entered(self):
        # The name is one of the ring, but not the one with the fewest labels.
        ring = Moves([("tree", ("a",), ("b", "b")), ("tree", ("b",), ()), ("alias", ("z",), ("z", "a"))])
        self.assertEqual(("ring", 0, 4), ending(ring, ("z", "b", "b")))
        self.assertEqual(("ring", 1, 4), ending(ring, ("z", "b", "b", "b")))

    def test_growth(self):
        for listed, name in [
                ([("tree", ("x",), ("y", "x"))], ("k", "x")), ([("tree", (), A)], B), ([("alias", B, ("b", "a")), ("tree", A, ("a", "a"))], B),
                ([("tree", ("x",), ("x", "x"))], ("k", "x")), (DEEP + [("tree", B, ("b", "b", "b"))], ("q", "b") + ("a1",) * 10),
                ([("tree", A, ("b", "c", "d")), ("tree", ("d",), ("d", "a"))], ("k", "a")),
                ([("alias", ("z",), ("x", "b")), ("tree", B, ("b", "c")), ("tree", C, A), ("tree", A, ("c", "c"))], ("z",))]:
            self.assertEqual("grows", self.check(Moves(listed), name))
        self.assertEqual("grows", ending(GROWING, ("k", "x"))[0])
        self.assertEqual("grows", ending(Moves([("tree", (), A)]), B)[0])
        self.assertEqual(("ends", ("x",), 0), ending(GROWING, ("x",)))
        long = ending(Moves(DEEP + [("tree", B, ("b", "b", "b"))]), ("q", "b") + ("a1",) * 10)
        self.assertTrue(10 * 1093 <= long[1] <= 100000)

    def test_by_chance(self):
        words = []
        for seed in range(120):
            moves = Moves(random_moves(seed))
            words.extend([self.check(moves, name) for name in SOME[::3] + [("q",) * 6, ("a", "b") * 6, ("q",) * 11 + ("c",)]])
        self.assertTrue(all([words.count(word) > 300 for word in ["ends", "ring", "grows"]]))


class GrowthTest(unittest.TestCase):
    def test_parts_changed(self):
        name = ("k", "x")
        good = ("grows", 2, 1, 1)
        self.assertTrue(judge_growth(GROWING, name, good))
        for value in [("grows", 1, 1, 1), ("grows", 3, 1, 1), ("grows", 2, 2, 1), ("grows", 5, 7, 5), ("grows", 99, 1, 99),
                      ("grows", 100000, 100000, 99999), ("grows", 100000, 1, 100000)]:
            self.assertTrue(judge_growth(GROWING, name, value), value)
        for value in [("grows", 0, 1, 0), ("grows", 2, 1, 0), ("grows", 2, 1, 3), ("grows", 1, 1, 2), ("grows", 0, 1, 1), ("grows", 2, 0, 1), ("ends", 2, 1, 1),
                      ("grows", 99, 1, 100), ("ring", 2, 1, 1), ("Grows", 2, 1, 1), ("grows", 1, 2), ("grows", 2, 1, 1, 1)]:
            self.assertFalse(judge_growth(GROWING, name, value), value)

    def test_parts_of_other_kinds(self):
        name, good = ("k", "x"), ("grows", 2, 1, 1)
        for wrong in NOTHING_AT_ALL + [True, False, -1, 100001, 10 ** 59, "1", "grows", (1,), [1], None]:
            for at in range(4):
                if (at, wrong) != (0, "grows"):
                    self.assertFalse(judge_growth(GROWING, name, good[:at] + (wrong,) + good[at + 1:]), (at, wrong))
            self.assertFalse(judge_growth(GROWING, name, wrong))
        for wrong in [list(good), (), good[:3], good + (1,), (good,), [good], {good: good}, nested(tuple, 100), nested(list, 100)]:
            self.assertFalse(judge_growth(GROWING, name, wrong))
        self.assertFalse(judge_growth(GROWING, name, (1,) * 5000))

    def test_bounds(self):
        name = ("k", "x")
        for first, length, kept in [(100001, 1, 1), (2, 100001, 1), (100000, 100000, 100001), (-1, 1, 0), (2, 0, 1), (2, 1, -1)]:
            self.assertFalse(judge_growth(GROWING, name, ("grows", first, length, kept)))

    def test_chases_that_do_not_grow(self):
        moves = Moves([("alias", A, B), ("tree", C, C), ("tree", ("x",), ("y", "y", "x")), ("tree", ("y",), ())])
        for name in [A, B, ("q", "c"), ("q", "q", "q", "c"), ("q", "y")]:
            for value in [("grows", first, length, kept) for first in range(3) for length in range(1, 4) for kept in range(3)]:
                self.assertFalse(judge_growth(moves, name, value))
        self.assertFalse(judge_growth(Moves([]), ("k", "x"), ("grows", 0, 1, 0)))

    def test_all_small_numbers(self):
        for seed in range(40):
            listed = random_moves(seed, signs=("a", "b"), most=4)
            for name in [("q", "a"), ("a", "b", "a"), ("b",), ("q", "b", "b", "a", "b")]:
                for value in [("grows", i, j, k) for i in range(4) for j in range(1, 4) for k in range(4)]:
                    self.assertEqual(plainmoves.shows_growth(listed, name, value), judge_growth(Moves(listed), name, value))

    def test_labels_of_targets_do_not_count(self):
        moves = Moves([("tree", ("x",), ("y", "y", "x"))])
        self.assertTrue(judge_growth(moves, ("k", "x"), ("grows", 1, 1, 2)))
        for word in ["alias", "tree"]:
            more = Moves(moves.moves() + [(word, ("p", "q"), ())])
            self.assertTrue(judge_growth(more, ("k", "x"), ("grows", 1, 1, 1)))
            self.assertFalse(judge_growth(more, ("k", "x"), ("grows", 1, 1, 2)))


class WrongTest(unittest.TestCase):
    def test_names(self):
        for value in NOTHING_AT_ALL + [("*",), ("*", "a"), ["a"], "a"]:
            for call in [lambda: step(GROWING, value), lambda: chase(GROWING, value, -1), lambda: ending(GROWING, value),
                         lambda: judge_growth(GROWING, value, ("grows", 1, 1, 1))]:
                with self.assertRaises(InvalidName) as caught:
                    call()
                self.assertEqual(value, caught.exception.value)
