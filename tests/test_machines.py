"""Sets of names as rows: which rows are wrong, and the least machine."""

import random
import unittest
from itertools import product

from rootward.errors import InvalidNames
from rootward.namesets import Names, join, just, meet, put_under, under, with_label
from tests.samples import NOTHING_AT_ALL, Stranger

GOOD = [(True, [("a", 0), ("b", 2)], 1), (False, [], 2), (False, [("x" * 20, 0)], 2)]

NO_ROWS = NOTHING_AT_ALL + [
    (), (True,), (True, []), (True, [], 0, 0), [True, [], 0], (1, [], 0), (0, [], 0), (None, [], 0), ("", [], 0),
    ([], True, 0), (True, (), 0), (True, None, 0), (True, {}, 0), (True, "ab", 0), (True, [], None), (True, [], "0"),
    (True, [], True), (True, [], False), (True, [], -1), (True, [], 3), (True, [], 10 ** 59), (True, [], (0,)),
    (True, [("a",)], 0), (True, [("a", 0, 0)], 0), (True, [["a", 0]], 0), (True, [("a", -1)], 0), (True, [("a", 3)], 0),
    (True, [("a", True)], 0), (True, [("a", None)], 0), (True, [(0, "a")], 0), (True, [("*", 0)], 0), (True, [("", 0)], 0),
    (True, [("-a", 0)], 0), (True, [("A", 0)], 0), (True, [("a" * 21, 0)], 0), (True, [(("a",), 0)], 0), (True, [None], 0),
    (True, [([], 0)], 0), (True, [({}, 0)], 0), (True, ["ab"], 0), (True, [("b", 0), ("a", 0)], 0),
    (True, [("a", 0), ("a", 0)], 0), (True, [("a", 0), ("a", 1)], 0), (True, [("b", 0), ("aa", 0)], 0),
    (True, [("a", 0), ("c", 0), ("b", 0)], 0), (True, [("a", 0), (["b"], 0)], 0)]


class WrongRowsTest(unittest.TestCase):
    def check(self, index, rows):
        with self.assertRaises(InvalidNames) as caught:
            Names(rows)
        self.assertEqual(index, caught.exception.value)
        self.assertIs(int, type(caught.exception.value))

    def test_each_place(self):
        Names(GOOD)
        for row in NO_ROWS:
            for index in range(3):
                rows = list(GOOD)
                rows[index] = row
                self.check(index, rows)
                self.check(index, rows[:index + 1] + [None] * (2 - index))

    def test_no_list(self):
        for value in NOTHING_AT_ALL + [[], (), tuple(GOOD), {0: GOOD[0]}, "rows", 0, Stranger(), Names(GOOD)]:
            if not isinstance(value, list) or value == []:
                self.check(0, value)
        for value in [[None], [[]], [GOOD], [()]]:
            self.check(0, value)

    def test_states_that_there_are(self):
        self.check(0, GOOD[:2])
        self.check(0, GOOD[:1])
        self.check(1, [(True, [], 0), (True, [], 2)])

    def test_ascending_as_texts(self):
        rows = [(True, [("aa", 0), ("b", 0), ("b-b", 1), ("b0", 0), ("ba", 0)], 1), (False, [], 1)]
        self.assertEqual(["aa", "b", "b0", "ba"], [label for label, _ in Names(rows).rows()[0][1]])


def plain_target(row, label):
    found = [state for road, state in row[1] if road == label]
    return found[0] if found else row[2]


def plain_least(rows):
    """The rows of the least machine, by the pairs of states that some name tells apart."""
    labels = sorted(set([label for row in rows for label, _ in row[1]])) + [None]
    states = range(len(rows))
    apart = {(one, other) for one, other in product(states, states) if rows[one][0] != rows[other][0]}
    while True:
        more = {(one, other) for one, other in product(states, states) if (one, other) not in apart and any(
            [(plain_target(rows[one], label), plain_target(rows[other], label)) in apart for label in labels])}
        if not more:
            break
        apart = apart | more
    alike = [min([other for other in states if (one, other) not in apart]) for one in states]
    found, kept = [alike[0]], []
    for state in found:
        other = alike[rows[state][2]]
        roads = [(label, alike[plain_target(rows[state], label)]) for label in labels[:-1]]
        roads = [(label, to) for label, to in roads if to != other]
        for to in [to for _, to in roads] + [other]:
            if to not in found:
                found.append(to)
        kept.append((rows[state][0], roads, other))
    return [(is_in, [(label, found.index(to)) for label, to in roads], found.index(other)) for is_in, roads, other in kept]


class LeastTest(unittest.TestCase):
    def test_by_hand(self):
        for rows, least in [
                ([(True, [], 0)], [(True, [], 0)]),
                ([(True, [("a", 1)], 1), (True, [], 0)], [(True, [], 0)]),
                ([(True, [], 0), (False, [], 0)], [(True, [], 0)]),
                ([(False, [("a", 1), ("b", 2)], 3), (True, [], 3), (True, [("a", 3)], 3), (False, [], 3)],
                 [(False, [("a", 1), ("b", 1)], 2), (True, [], 2), (False, [], 2)]),
                ([(False, [("a", 3), ("b", 1)], 2), (True, [], 1), (False, [], 2), (False, [], 1)],
                 [(False, [("a", 1), ("b", 2)], 3), (False, [], 2), (True, [], 2), (False, [], 3)]),
                ([(False, [("a", 0), ("b", 1)], 0), (True, [("b", 0)], 1)],
                 [(False, [("b", 1)], 0), (True, [("b", 0)], 1)]),
                ([(False, [("z", 1)], 2), (True, [("a", 3), ("b", 1)], 4), (False, [], 2), (True, [], 4), (True, [], 4)],
                 [(False, [("z", 1)], 2), (True, [], 1), (False, [], 2)])]:
            self.assertEqual(least, Names(rows).rows())
            self.assertEqual(len(least), len(Names(rows)))
            self.assertEqual(Names(rows), Names(least))

    def test_other_road_is_come_to_last(self):
        rows = [(False, [("b", 2)], 1), (True, [], 1), (False, [("a", 1)], 2)]
        self.assertEqual([(False, [("b", 1)], 2), (False, [("a", 2)], 1), (True, [], 2)], Names(rows).rows())

    def test_by_chance(self):
        chance = random.Random(11)
        for _ in range(400):
            states = chance.randrange(1, 9)
            rows = []
            for _ in range(states):
                labels = [label for label in ["a", "b", "c-c"] if chance.random() < 0.6]
                roads = [(label, chance.randrange(states)) for label in labels]
                rows.append((chance.random() < 0.3, roads, chance.randrange(states)))
            names = Names(rows)
            self.assertEqual(plain_least(rows), names.rows())
            self.assertEqual(names.rows(), Names(names.rows()).rows())
            self.assertEqual(len(names), len(names.rows()))

    def test_many_states_that_are_alike(self):
        for size in [2, 7, 61]:
            chain = [(step % 2 == 0, [("a", (step * 3) % (2 * size))], (step + 1) % (2 * size)) for step in range(2 * size)]
            self.assertEqual(plain_least(chain), Names(chain).rows())

    def test_of_functions(self):
        two = just([("a",), ("b", "a"), ("b",)])
        self.assertEqual([(False, [("a", 1), ("b", 2)], 3), (True, [("b", 2)], 3), (True, [], 3), (False, [], 3)], two.rows())
        self.assertEqual([(False, [("a", 1)], 2), (True, [], 1), (False, [], 2)], under(("a",)).rows())
        self.assertEqual([(False, [("a", 1)], 2), (False, [("b", 3)], 2), (False, [], 2), (True, [], 2)],
                         put_under(just([("b",)]), ("a",)).rows())
        self.assertEqual([(False, [("b", 1)], 0), (True, [("b", 1)], 0)], with_label(under(()), "b").rows())
        for names in [join(two, under(("b",))), meet(two, under(("a",))), with_label(two, "b")]:
            self.assertEqual(plain_least(names.rows()), names.rows())
