"""Moves and all names, against the chases of names that are gone through one by one."""

import random
import unittest

from rootward.allmoves import (
    coming_to, endless, ending_in, first_apart, first_endless, growing, in_rings, longest, longest_name, needless_moves)
from rootward.labels import first, size
from rootward.moves import Moves, ending
from rootward.namesets import Names, below, every, join, just, meet, nobody, others, put_under, under
from tests import plainmoves
from tests.plainmoves import SOME, random_moves
from tests.test_namesets import cycle, random_names

A, B, C = ("a",), ("b",), ("c",)
DEEP = [("tree", (f"a{k}",), (f"a{k + 1}",) * 3) for k in range(1, 7)] + [("tree", ("a7",), ())]
# A ring, growth, and chases that end, in one book.
MIXED = [("alias", A, B), ("alias", B, A), ("tree", ("x",), ("y", "x")), ("tree", C, ("x", "x")), ("tree", ("r",), ("r",)),
         ("tree", ("e",), ("f",)), ("alias", ("q", "e"), ("r",)), ("tree", ("f",), ("r", "d"))]
SEEDS = range(45)


def ends(listed):
    """Return the ends of the chases of some names."""
    return {name: plainmoves.chase(listed, name) for name in SOME}


class FatesTest(unittest.TestCase):
    def check(self, listed):
        moves = Moves(listed)
        never, rings, grows = endless(moves), in_rings(moves), growing(moves)
        for name, (end, _) in ends(listed).items():
            self.assertEqual(end[0] != "ends", never.holds(name), (listed, name))
            self.assertEqual(end[0] == "ring", rings.holds(name), (listed, name))
            self.assertEqual(end[0] == "grows", grows.holds(name), (listed, name))
        self.assertEqual(never, join(rings, grows))
        self.assertEqual(nobody(), meet(rings, grows))
        found = first([name for name in SOME if never.holds(name)])
        if found is not None:
            self.assertLessEqual(size(first_endless(moves)), size(found))
        if never == nobody():
            self.assertIsNone(first_endless(moves))
        else:
            self.assertNotEqual("ends", ending(moves, first_endless(moves))[0])

    def test_by_chance(self):
        for seed in SEEDS:
            self.check(random_moves(seed))

    def test_small_books(self):
        for listed in [[], [("alias", A, A)], [("alias", A, B)], [("tree", (), ())], [("tree", (), A)], [("tree", A, ())],
                       [("alias", (), ())], [("alias", (), A), ("tree", A, ())], [("tree", (), ()), ("alias", A, ())]]:
            self.check(listed)
        self.assertEqual(nobody(), endless(Moves([])))
        self.assertEqual(others(just([()])), in_rings(Moves([("tree", (), ())])))
        self.assertEqual(others(just([()])), growing(Moves([("tree", (), A)])))

    def test_rings_and_growth_together(self):
        self.check(MIXED)
        moves = Moves(MIXED)
        self.assertEqual(8, len(moves))
        rings, grows = in_rings(moves), growing(moves)
        for name, is_ring, is_growing in [
                (A, True, False), (("k", "r"), True, False), (("k", "x"), False, True), (("k", "c"), False, True),
                (("r", "x"), False, True), (("r",), False, False), (("q", "e"), False, False), (("new", "e"), False, False)]:
            self.assertEqual((is_ring, is_growing), (rings.holds(name), grows.holds(name)), name)
        self.assertEqual(join(just([A, B]), below(("r",))), rings)
        self.assertEqual(join(below(("x",)), below(C)), grows)
        self.assertEqual(A, first_endless(moves))

    def test_names_with_many_labels(self):
        for seed in range(60):
            listed = random_moves(seed, signs=("a", "b"))
            never = endless(Moves(listed))
            chance = random.Random(seed)
            for _ in range(20):
                name = tuple([chance.choice(["a", "b", "b", "new"]) for _ in range(12)])
                self.assertEqual(plainmoves.chase(listed, name)[0][0] != "ends", never.holds(name))

    def test_first_endless(self):
        self.assertEqual(("0", "q"), first_endless(Moves([("tree", ("q",), ("q",))])))
        self.assertEqual(("0",), first_endless(Moves([("tree", (), ())])))
        self.assertEqual(("1", "0"), first_endless(Moves([("alias", ("1", "0"), ("1", "0"))])))
        self.assertEqual((), first_endless(Moves([("alias", (), ())])))
        self.assertEqual(("r",), first_endless(Moves([("alias", ("r",), ("s", "q")), ("tree", ("q",), ("q",))])))


class GoalsTest(unittest.TestCase):
    def check(self, listed, goal):
        moves = Moves(listed)
        coming, at_end = coming_to(moves, goal), ending_in(moves, goal)
        for name, (end, names) in ends(listed).items():
            # Of names that grow only a part is gone through, which is enough for small sets.
            self.assertEqual(any([goal.holds(one) for one in names]), coming.holds(name), (listed, goal.rows(), name))
            self.assertEqual(end[0] == "ends" and goal.holds(end[1]), at_end.holds(name), (listed, goal.rows(), name))

    def test_by_chance(self):
        for seed in SEEDS:
            self.check(random_moves(seed), random_names(seed, states=4, labels=("a", "b", "q", "z")))

    def test_plain_sets(self):
        for seed in range(12):
            listed = random_moves(seed)
            moves = Moves(listed)
            self.assertEqual(every(), coming_to(moves, every()))
            self.assertEqual(nobody(), coming_to(moves, nobody()))
            self.assertEqual(others(endless(moves)), ending_in(moves, every()))
            self.assertEqual(nobody(), ending_in(moves, nobody()))
            for goal in [just([A]), just([()]), under(B), just([("q", "a"), ("b", "q", "z")]), others(under(A))]:
                self.check(listed, goal)

    def test_without_moves(self):
        for seed in range(30):
            goal = random_names(seed)
            self.assertEqual([goal, goal], [coming_to(Moves([]), goal), ending_in(Moves([]), goal)])

    def test_by_hand(self):
        moves = Moves([("tree", ("old",), ("new",)), ("alias", A, ("k", "old")), ("tree", ("new", "x"), ())])
        found = coming_to(moves, just([("k", "new")]))
        for name, comes, at_end in [
                (A, True, True), (("k", "old"), True, True), (("k", "new"), True, True), (("j", "old"), False, False),
                (("k", "old") + ("new", "x") * 9, True, True), (("j", "old") + ("new", "x") * 9, False, False),
                (A + ("new", "x") * 9, True, True), (("new", "x") * 2, False, False), ((), False, False)]:
            self.assertEqual(comes, found.holds(name), name)
            self.assertEqual(at_end, ending_in(moves, just([("k", "new")])).holds(name), name)
        self.assertTrue(coming_to(moves, just([A])).holds(A))
        self.assertEqual(nobody(), ending_in(moves, just([A])))

    def test_growth_through_many_states(self):
        # Behind each step there is another label, so a name comes that has any number of them.
        moves = Moves([("tree", ("x",), ("y", "x"))])
        for kept in [0, 1, 2, 59, 60]:
            self.assertEqual(join(below(("x",)), cycle(61, kept)), coming_to(moves, cycle(61, kept)))
            self.assertEqual(meet(others(below(("x",))), cycle(61, kept)), ending_in(moves, cycle(61, kept)))
        # Two labels more with each step: the rest stays even, or odd, if the length is even.
        two = coming_to(Moves([("tree", ("x",), ("y", "y", "x"))]), cycle(60, 7))
        for many in range(1, 12):
            self.assertEqual((many + 1) % 2 == 1, two.holds(("k",) * many + ("x",)))

    def test_chains_of_aliases(self):
        names = [A, B, C, ("d",), ("e",)]
        for order in [names, names[::-1], [C, A, ("e",), B, ("d",)], [("d",), B, A, ("e",), C]]:
            moves = Moves([("alias", name, target) for name, target in zip(order, order[1:])])
            for at, name in enumerate(order):
                self.assertEqual(just(order[:at + 1]), coming_to(moves, just([name])))
                self.assertEqual(just(order if at == 4 else []), ending_in(moves, just([name])))

    def test_growth_by_several_moves(self):
        signs = ["x", "y", "z"]
        for order in [signs, signs[::-1]]:
            moves = Moves([("tree", (label,), ("p", after)) for label, after in zip(order, order[1:] + order[:1])])
            beneath = join(below(("x",)), join(below(("y",)), below(("z",))))
            for label in signs:
                self.assertEqual(join(beneath, just([(label,)])), coming_to(moves, under((label,))))
            for kept in range(4):
                self.assertEqual(join(beneath, cycle(4, kept)), coming_to(moves, cycle(4, kept)))

    def test_sets_with_61_states(self):
        chance = random.Random(8)
        names = [tuple([chance.choice(["a", "b", "c", "q", "z"]) for _ in range(chance.randrange(1, 4))]) for _ in range(40)]
        goal = just(names)
        self.assertLessEqual(len(goal), 61)
        for seed in range(15):
            self.check(random_moves(seed), goal)

    def test_labels_without_moves(self):
        moves = Moves([("tree", ("a",), ("b", "z")), ("tree", ("b",), ())])
        goal = Names([(False, [("q", 1), ("z", 2)], 3), (True, [], 1), (False, [("b", 4)], 3), (False, [], 3),
                      (False, [("new", 1)], 3)])
        for name, comes in [(("new", "a"), True), (("old", "a"), False), (("new", "b", "z"), True), (("x", "q"), True),
                            (("q", "b"), True), (("x", "q", "b", "b"), True), (("new", "a", "b"), True), (("new", "z"), False)]:
            self.assertEqual(comes, coming_to(moves, goal).holds(name), name)
            self.assertEqual(comes, ending_in(moves, goal).holds(name), name)


class LongestTest(unittest.TestCase):
    def test_by_chance(self):
        numbers = []
        for seed in range(120):
            listed = random_moves(seed, most=4)
            most, name = longest(Moves(listed)), longest_name(Moves(listed))
            steps = [(end[2], name) for name, (end, _) in ends(listed).items() if end[0] == "ends"]
            numbers.append(most)
            if most is None:
                self.assertIsNone(name)
                continue
            self.assertLessEqual(max([number for number, _ in steps]), most)
            self.assertEqual(("ends", most), plainmoves.chase(listed, name)[0][::2])
            found = first([other for number, other in steps if number == most])
            if found is not None:
                self.assertEqual(name, first([name, found]))
        self.assertTrue(numbers.count(None) > 20 and len(set(numbers)) > 4, numbers)

    def test_none(self):
        for listed in [[("tree", A, ())], [("tree", ("a", "a"), ("a",))], [("tree", A, B), ("tree", B, ())],
                       [("tree", ("a", "b"), B), ("tree", C, ("b", "d"))]]:
            self.assertEqual([None, None], [longest(Moves(listed)), longest_name(Moves(listed))])

    def test_numbers(self):
        for listed, most, name in [
                ([], 0, ()), ([("alias", A, B)], 1, A), ([("alias", A, B), ("alias", B, C)], 2, A),
                ([("tree", A, B)], 1, ("0", "a")), ([("tree", (), ())], 0, ()), ([("alias", A, A)], 0, ()),
                ([("tree", B, ("a", "z")), ("tree", ("a", "z"), C)], 2, ("0", "b")), (DEEP[:-1], 6, ("0", "a1")),
                ([("tree", ("0",), ("1", "1")), ("tree", ("1",), ("2", "2"))], 2, ("0", "0")),
                ([("alias", C, ("q", "a1"))] + DEEP[:-1], 7, C), ([("tree", B, ("b", "b")), ("alias", C, A)], 1, C)]:
            self.assertEqual([most, name], [longest(Moves(listed)), longest_name(Moves(listed))])


class ApartTest(unittest.TestCase):
    def check(self, listed, other):
        found = first_apart(Moves(listed), Moves(other))
        self.assertEqual(found, first_apart(Moves(other), Moves(listed)))
        apart = [name for name in SOME if plainmoves.last_name(listed, name) != plainmoves.last_name(other, name)]
        if found is None:
            self.assertEqual([], apart)
        else:
            self.assertNotEqual(plainmoves.last_name(listed, found), plainmoves.last_name(other, found))
            if apart:
                self.assertEqual(found, first(apart + [found]))
        return found

    def test_one_move_less(self):
        found = []
        for seed in SEEDS:
            listed = random_moves(seed)
            needless = []
            for at, move in enumerate(sorted(listed, key=lambda move: move[1][::-1])):
                found.append(self.check(listed, [other for other in listed if other != move]))
                if found[-1] is None:
                    needless.append(move)
            self.assertEqual(needless, needless_moves(Moves(listed)))
        self.assertTrue(20 < found.count(None) < len(found) - 20)

    def test_other_books(self):
        for seed in SEEDS:
            self.check(random_moves(seed), random_moves(seed + 1000, signs=("a", "b", "q"), most=4))

    def test_alike(self):
        for one, other in [
                ([("tree", A, B), ("tree", B, C)], [("tree", A, C), ("tree", B, C)]),
                ([("tree", A, ("a", "a"))], [("tree", A, A)]), ([("tree", A, ("b", "c"))], [("tree", A, ("b", "c"))])]:
            self.assertIsNone(self.check(one, other))
        self.assertIsNone(first_apart(Moves([("tree", A, ("a", "a"))]), Moves([("tree", A, A)])))
        self.assertIsNone(first_apart(Moves([]), Moves([])))
        self.assertEqual(B, first_apart(Moves([("alias", A, A)]), Moves([("alias", A, A), ("alias", B, A)])))

    def test_ends_far_apart(self):
        # One book takes the labels off one by one, the other one keeps them.
        for one, other, name in [
                ([("tree", A, ())], [], ("0", "a")), ([("tree", A, ())], [("tree", ("a", "a"), ())], ("0", "a")),
                ([("tree", A, ())], [("tree", A, ()), ("alias", ("b", "a", "a"), ("b", "a"))], None),
                ([("tree", ("a", "b"), B)], [("tree", ("a", "b"), B), ("tree", ("a", "a", "b"), B)], None),
                ([("tree", ("a", "b"), B)], [("tree", ("a", "a", "b"), B)], ("0", "a", "b"))]:
            self.assertEqual(name, self.check(one, other))

    def taken(self, listed):
        """Return the moves without which all names come to the same ends, one by one."""
        return [move for move in listed if self.check(listed, [other for other in listed if other != move]) is None]

    def test_needless(self):
        moves = [("tree", A, B), ("alias", ("x", "a"), ("x", "b")), ("alias", ("y", "a"), ("y", "c"))]
        self.assertEqual(moves[1:2], needless_moves(Moves(moves)))
        self.assertEqual([], needless_moves(Moves([])))
        trees = [("tree", ("x", "a"), ("x", "b")), ("tree", A, B)]
        self.assertEqual(trees[:1], needless_moves(Moves(trees)))
        # Each of two is needless as long as the other one is there.
        aliases = [("alias", A, B), ("alias", B, A)]
        self.assertEqual([], needless_moves(Moves(aliases)))
        rings = [("tree", A, B), ("tree", B, A), ("tree", ("b", "b"), ("b",))]
        self.assertEqual(self.taken(rings), needless_moves(Moves(rings)))
        self.check(moves, moves[:1] + moves[2:])


class LimitsTest(unittest.TestCase):
    def test_eight_moves_with_many_steps(self):
        moves = Moves(DEEP + [("tree", ("z", "b"), ("a1", "a1", "b"))])
        self.assertEqual(("ends", ("z",), 11 * 1093), ending(moves, ("z",) + ("a1",) * 11))
        self.assertIsNone(longest(moves))
        self.assertEqual([], needless_moves(moves))
        self.assertIsNone(first_endless(moves))
        self.assertTrue(ending_in(moves, just([("z",)])).holds(("z",) + ("a1",) * 500))

    def test_growth_with_eight_moves_of_three_labels(self):
        listed = [("tree", (f"a{k}", "b", "c"), ("d", f"a{(k + 1) % 7}", "b")) for k in range(7)] + [("tree", (), C)]
        moves = Moves(listed)
        self.assertEqual(others(just([()])), endless(moves))
        # The tree at the root moves all names without end, whatever the others do.
        self.assertEqual(moves.moves()[1:], needless_moves(moves))

    def test_put_under(self):
        moves = Moves([("tree", ("old", "x", "y"), ("new", "z"))])
        for seed in range(20):
            goal = put_under(random_names(seed), ("new", "z"))
            self.assertEqual(join(goal, put_under(meet(random_names(seed), others(just([()]))), ("old", "x", "y"))), coming_to(moves, goal))
