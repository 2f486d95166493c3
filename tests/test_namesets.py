"""Sets of names: their functions against names held one by one."""

import random
import unittest
from itertools import product

from rootward.errors import InvalidLabel, InvalidName, InvalidNumber
from rootward.labels import first, labels_of, names_of, nth_label, size
from rootward.namesets import (
    Names, below, count, counts, every, first_apart, first_in, join, just, meet, nobody, others, put_under, taken_from,
    under, with_label, without)
from tests.samples import NOTHING_AT_ALL, small_names

LABELS = ["a", "b", "ab", "q"]
SOME = small_names(LABELS, 4)
ONE_SIGN = [nth_label(index) for index in range(36)]
TWO_SIGNS = [nth_label(index) for index in range(36, 36 + 1296)]
SIZE_4 = [(), *product(ONE_SIGN), *product(TWO_SIGNS)]
SIZE_5 = SIZE_4 + list(product(ONE_SIGN, ONE_SIGN))


def random_names(seed, states=5, labels=("a", "b", "ab")):
    """Return a set by a machine that a number decides."""
    chance = random.Random(seed)
    rows = []
    for _ in range(states):
        listed = sorted(chance.sample(labels, chance.randrange(len(labels) + 1)))
        roads = [(label, chance.randrange(states)) for label in listed]
        rows.append((chance.random() < 0.4, roads, chance.randrange(states)))
    return Names(rows)


def held(names):
    return [name for name in SOME if names.holds(name)]


def cycle(length, kept):
    """Return all names whose number of labels leaves a rest when divided by a length."""
    return Names([(step == kept, [], (step + 1) % length) for step in range(length)])


class PlainSetsTest(unittest.TestCase):
    def test_every_and_nobody(self):
        self.assertEqual(SOME, held(every()))
        self.assertEqual([], held(nobody()))
        self.assertEqual([[(True, [], 0)], [(False, [], 0)]], [every().rows(), nobody().rows()])
        self.assertEqual([1, 1], [len(every()), len(nobody())])

    def test_just(self):
        chance = random.Random(3)
        for many in list(range(12)) + [40]:
            names = chance.sample(SOME, many)
            self.assertEqual(sorted(names), sorted(held(just(names))))
            self.assertEqual(just(names), just(names[::-1] + names))
        self.assertEqual(nobody(), just([]))
        self.assertTrue(just([("a",) * 12]).holds(("a",) * 12))
        self.assertFalse(just([("a",) * 12]).holds(("a",) * 13))
        self.assertEqual(14, len(just([("a",) * 12])))

    def test_below_and_under(self):
        for name in [(), ("a",), ("b", "a"), ("a", "ab"), ("q", "q", "q")]:
            ends = [other for other in SOME if other[len(other) - len(name):] == name]
            self.assertEqual(ends, held(under(name)))
            self.assertEqual([other for other in ends if other != name], held(below(name)))
        self.assertEqual(every(), under(()))
        self.assertEqual(others(just([()])), below(()))

    def test_holds_names_of_any_length(self):
        self.assertTrue(under(("a",)).holds(("z",) * 1000 + ("a",)))
        self.assertFalse(under(("a",)).holds(("a",) * 1000 + ("z",)))


class FunctionsTest(unittest.TestCase):
    def setUp(self):
        self.sets = [random_names(seed) for seed in range(24)] + [every(), nobody(), just([()]), below(("a",))]

    def test_two_sets(self):
        for one, other in product(self.sets[:10] + self.sets[-4:], repeat=2):
            ones, others_held = held(one), held(other)
            both = [name for name in ones if name in set(others_held)]
            first_alone = [name for name in ones if name not in set(others_held)]
            self.assertEqual(both, held(meet(one, other)))
            self.assertEqual(first_alone, held(without(one, other)))
            self.assertEqual(sorted(set(ones + others_held)), sorted(held(join(one, other))))
            self.assertEqual(join(one, other), join(other, one))
            self.assertEqual(meet(one, other), others(join(others(one), others(other))))
            self.assertEqual(without(one, other), meet(one, others(other)))

    def test_others(self):
        for one in self.sets:
            self.assertEqual([name for name in SOME if not one.holds(name)], held(others(one)))
            self.assertEqual(one, others(others(one)))
            self.assertEqual([every(), nobody()], [join(one, others(one)), meet(one, others(one))])

    def test_put_under(self):
        for one in self.sets:
            for name in [(), ("a",), ("q", "a"), ("a", "b", "ab")]:
                moved = [other + name for other in held(one)]
                found = put_under(one, name)
                self.assertTrue(all([found.holds(other) for other in moved]))
                self.assertEqual([other for other in SOME if other in set(moved)], held(found))
                self.assertEqual(one, taken_from(found, name))

    def test_taken_from(self):
        for one in self.sets:
            for name in [(), ("a",), ("q", "a"), ("a", "b", "ab")]:
                self.assertEqual([other for other in SOME if one.holds(other + name)], held(taken_from(one, name)))

    def test_with_label(self):
        for one in self.sets:
            for label in ["a", "ab", "q", "0"]:
                found = with_label(one, label)
                self.assertEqual([name for name in SOME if name[:1] == (label,) and one.holds(name[1:])], held(found))
                self.assertFalse(found.holds(()))

    def test_equality(self):
        for one, other in product(self.sets, repeat=2):
            self.assertEqual(held(one) == held(other), one == other)
            self.assertEqual(held(one) != held(other), one != other)
        for name in [(), ("a",), ("b", "ab", "q")]:
            for one in self.sets:
                unlike = without(one, just([name])) if one.holds(name) else join(one, just([name]))
                self.assertFalse(one == unlike)
                self.assertEqual(name, first_apart(one, unlike))
                again = join(unlike, just([name])) if one.holds(name) else without(unlike, just([name]))
                self.assertTrue(one == again)
        for value in NOTHING_AT_ALL + [every().rows(), 1]:
            self.assertFalse(every() == value)
            self.assertTrue(every() != value)


class FirstTest(unittest.TestCase):
    def test_first_in(self):
        for seed in range(60):
            names = random_names(seed, states=4, labels=("a", "0", "z", "00"))
            found = [name for name in SIZE_5 if names.holds(name)]
            if found:
                self.assertEqual(first(found), first_in(names))
            elif first_in(names) is not None:
                self.assertTrue(names.holds(first_in(names)))
                self.assertGreater(size(first_in(names)), 5)
        self.assertIsNone(first_in(nobody()))
        self.assertEqual((), first_in(every()))

    def test_first_of_a_list(self):
        chance = random.Random(5)
        for _ in range(200):
            names = chance.sample(SOME, chance.randrange(1, 9))
            self.assertEqual(first(names), first_in(just(names)))
            rest = chance.sample(SOME, 5)
            apart = [name for name in names if name not in rest] + [name for name in rest if name not in names]
            self.assertEqual(first(apart), first_apart(just(names), just(rest)))

    def test_labels_that_are_taken(self):
        taken = Names([(False, [(label, 1) for label in sorted(ONE_SIGN)], 2), (False, [], 1), (True, [], 1)])
        self.assertEqual(("00",), first_in(taken))
        two = Names([(False, [(label, 1) for label in sorted(ONE_SIGN + TWO_SIGNS)], 2), (False, [], 1), (True, [], 1)])
        self.assertEqual(("0-0",), first_in(two))
        last = [(label, 1 if label != "z" else 2) for label in sorted(ONE_SIGN)]
        self.assertEqual(("z",), first_in(Names([(False, last, 2), (False, [], 1), (True, [], 1)])))
        few = Names([(False, [("0", 1), ("00", 1), ("1", 1)], 2), (False, [], 1), (True, [], 1)])
        self.assertEqual(("2",), first_in(few))
        self.assertEqual(("0", "2"), first_in(put_under(others(just([()])), ("2",))))

    def test_order_of_names_of_one_size(self):
        # By size alike; labels compare as texts from the last one on, however long they are.
        names = just([("abcd",), ("ab", "b"), ("b", "ab"), ("0", "0c")])
        self.assertEqual(("0", "0c"), first_in(just([("abcd",), ("ab", "b"), ("b", "ab"), ("0", "0c")])))
        self.assertEqual(("b", "ab"), first_in(without(names, just([("0", "0c")]))))
        self.assertEqual(("abcd",), first_in(just([("abcd",), ("ab", "b")])))

    def test_first_apart(self):
        for seed in range(60):
            one = random_names(seed, states=3, labels=("a", "0", "z"))
            other = random_names(seed + 1000, states=3, labels=("a", "1", "z"))
            apart = first([name for name in SIZE_5 if one.holds(name) != other.holds(name)])
            found = first_apart(one, other)
            self.assertEqual(found, first_apart(other, one))
            if apart is not None:
                self.assertEqual(apart, found)
            else:
                self.assertEqual(found is None, one == other)
            self.assertIsNone(first_apart(one, one))

    def test_names_with_many_labels(self):
        one, other = cycle(60, 0), cycle(61, 0)
        both = meet(one, other)
        self.assertEqual(3660, len(both))
        self.assertEqual(("0",) * 3660, first_in(without(both, just([()]))))
        self.assertEqual(("0",) * 60, first_apart(one, other))


class CountsTest(unittest.TestCase):
    def test_small_sizes(self):
        for seed in range(25):
            names = random_names(seed, states=4, labels=("a", "0", "z", "00", "a-b"))
            found = [size(name) for name in SIZE_5 if names.holds(name)]
            self.assertEqual([found.count(number) for number in range(5)], counts(names, 4))
            # Of three signs all labels but the one with a road of its own lead to one state.
            own = 1 if names.holds(("a-b",)) else 0
            plain = 36 * 37 * 36 - 1 if names.holds(("a0b",)) else 0
            two_labels = len([name for name in SIZE_5 if len(name) == 2 and names.holds(name)])
            self.assertEqual(two_labels + own + plain, count(names, 5))

    def test_all_names(self):
        self.assertEqual([names_of(number) for number in range(401)], counts(every(), 400))
        self.assertEqual([0] * 401, counts(nobody(), 400))

    def test_great_sizes(self):
        for seed in range(3):
            names = random_names(seed, states=61, labels=("a", "b", "ab", "x" * 19, "x" * 20))
            numbers = counts(names, 400)
            self.assertEqual(401, len(numbers))
            self.assertEqual([names_of(number) - numbers[number] for number in range(401)], counts(others(names), 400))
            self.assertEqual([numbers[number] for number in [0, 1, 2, 3, 399, 400]],
                             [count(names, number) for number in [0, 1, 2, 3, 399, 400]])

    def test_below(self):
        net = below(("net",))
        for number in range(40):
            self.assertEqual(names_of(number - 4) if number > 5 else 0, count(net, number))

    def test_long_labels(self):
        names = just([("x" * 20,), ("a", "x" * 20), ("x" * 20, "x" * 20)])
        self.assertEqual([22, 24, 43], [number for number, many in enumerate(counts(names, 60)) if many == 1])
        self.assertEqual(names_of(22) - 1, count(others(names), 22))
        one = Names([(False, [], 1), (True, [], 2), (False, [], 2)])
        self.assertEqual([labels_of(number - 2) if number > 1 else 0 for number in range(60)], counts(one, 59))

    def test_below_zero(self):
        for number in [-1, -5, -10 ** 59]:
            for call in [count, counts]:
                with self.assertRaises(InvalidNumber) as caught:
                    call(every(), number)
                self.assertEqual(number, caught.exception.value)
        self.assertEqual([[0], [0, 1], 0, 1], [counts(every(), 0), counts(every(), 1), count(every(), 0), count(every(), 1)])


class WrongTest(unittest.TestCase):
    def check(self, error, value, call):
        with self.assertRaises(error) as caught:
            call()
        self.assertEqual(value, caught.exception.value)

    def test_names(self):
        for value in NOTHING_AT_ALL + [("*",), ("*", "a"), ["a"]]:
            for call in [every().holds, below, under, lambda name: put_under(every(), name),
                         lambda name: taken_from(every(), name), lambda name: just([name, ["later"]]),
                         lambda name: just([("a",), (), name, ["later"]])]:
                self.check(InvalidName, value, lambda: call(value))

    def test_labels(self):
        for value in NOTHING_AT_ALL + ["*", "", "-", "A", "a" * 21, ("a",), ["a"], 0]:
            self.check(InvalidLabel, value, lambda: with_label(every(), value))
