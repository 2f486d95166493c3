"""Changes for all books, against all books over a few names, kinds, data and ages."""

import random
import unittest

from rootward.allchanges import apart, behind, idle, judge_apart, judge_order, lean, order_apart, when
from rootward.changes import applies, changed
from rootward.errors import InvalidDeed
from rootward.records import records_of, sets_of
from tests import plainchanges
from tests.samples import DATA, KINDS, NOTHING_AT_ALL, nested

A, B, BELOW, WILD = ("a",), ("b",), ("b", "a"), ("*", "a")
CONDITIONS = [
    ("there", A), ("free", A), ("has", A, "addr"), ("lacks", A, "addr"), ("just", A, "addr", (1,)), ("just", A, "addr", (1, 2)),
    ("has", A, "text"), ("there", ()), ("free", WILD)]
DEEDS = [
    ("add", (A, "addr", 5, 1)), ("add", (A, "addr", 6, 1)), ("add", (A, "addr", 5, 2)), ("take", A, "addr", 1), ("clear", A, "addr"),
    ("clear", A, "text"), ("drop", A), ("add", (BELOW, "addr", 5, 1)), ("drop", ()), ("add", (WILD, "addr", 5, 1)), ("drop", WILD)]


def number(sets):
    return sum([len(entry[3]) for entry in sets])


def random_change(chance, conditions=2, deeds=2, names=(A, BELOW)):
    """A change of a few names and two kinds."""
    datas = {"addr": [1, 2], "text": ["x"]}
    told = ([], [])
    for _ in range(chance.randrange(conditions + 1)):
        name, kind = chance.choice(names), chance.choice(["addr", "text"])
        some = tuple(datas[kind][:chance.randrange(1, 3)])
        told[0].append(chance.choice([
            ("there", name), ("free", name), ("has", name, kind), ("lacks", name, kind), ("just", name, kind, some)]))
    for _ in range(chance.randrange(deeds + 1)):
        name, kind = chance.choice(names), chance.choice(["addr", "text"])
        data = chance.choice(datas[kind])
        add = ("add", (name, kind, chance.randrange(5, 7), data))
        told[1].append(chance.choice([add, add, ("take", name, kind, data), ("clear", name, kind), ("drop", name)]))
    return told


def books_of(*changes):
    return list(plainchanges.small_books(changes))


class AllBooksTest(unittest.TestCase):
    def check_least(self, book, unlike, judge, one, other):
        """Look at what is told as a least book, with all small ones that are unlike."""
        self.assertEqual(not unlike, book is None)
        if book is None:
            self.assertFalse(judge(one, other, []))
            return
        self.assertEqual(min([plainchanges.number(one_of) for one_of in unlike]), number(book))
        self.assertEqual(sets_of(records_of(book)), book)
        self.assertTrue(judge(one, other, book))
        for small in unlike[:5]:
            sets = sets_of(records_of(plainchanges.plain(small)))
            self.assertEqual(number(sets) == number(book), judge(one, other, sets))

    def check_pair(self, one, other):
        books = books_of(one, other)
        behind_one = [plainchanges.behind(book, one) for book in books]
        behind_other = [plainchanges.behind(book, other) for book in books]
        unlike = [book for book, end, other_end in zip(books, behind_one, behind_other) if end != other_end]
        self.check_least(apart(one, other), unlike, judge_apart, one, other)
        unlike = [book for book, end, other_end in zip(books, behind_one, behind_other)
                  if plainchanges.behind(end, other) != plainchanges.behind(other_end, one)]
        self.check_least(order_apart(one, other), unlike, judge_order, one, other)
        told = [all([plainchanges.holds(end, condition) for condition in other[0]])
                for book, end in zip(books, behind_one) if all([plainchanges.holds(book, condition) for condition in one[0]])]
        self.assertEqual("never" if not any(told) else "always" if all(told) else "sometimes", behind(one, other))

    def check_alone(self, change):
        books = books_of(change)
        told = [all([plainchanges.holds(book, condition) for condition in change[0]]) for book in books]
        self.assertEqual("always" if all(told) else "sometimes" if any(told) else "never", when(change))
        self.assertEqual(all([plainchanges.behind(book, change) == book for book in books]), idle(change))
        self.assertEqual(self.lean_by_hand(change, books), lean(change))

    def lean_by_hand(self, change, books):
        """The change out of which entries are taken one by one, the last ones first."""
        for part in [1, 0]:
            shorter = self.shorter(change, part, books)
            while shorter is not None:
                change = shorter
                shorter = self.shorter(change, part, books)
        return change

    def shorter(self, change, part, books):
        for at in range(len(change[part]))[::-1]:
            rest = change[part][:at] + change[part][at + 1:]
            other = (rest, change[1]) if part == 0 else (change[0], rest)
            if all([plainchanges.behind(book, change) == plainchanges.behind(book, other) for book in books]):
                return other
        return None

    def test_each_deed_against_each(self):
        for deed in DEEDS:
            for other in DEEDS:
                self.check_pair(([], [deed]), ([], [other]))

    def test_each_condition_against_each(self):
        for condition in CONDITIONS:
            for other in CONDITIONS:
                self.check_pair(([condition], [DEEDS[0]]), ([other], [DEEDS[0]]))
                self.check_alone(([condition, other], [DEEDS[4]]))

    def test_each_alone(self):
        for condition in CONDITIONS:
            for deed in DEEDS:
                self.check_alone(([condition], [deed, DEEDS[3]]))
                self.check_pair(([condition], [deed]), ([], [deed]))

    def test_by_chance(self):
        for seed in range(90):
            chance = random.Random(seed)
            self.check_pair(random_change(chance), random_change(chance))
            self.check_alone(random_change(chance, 3, 4))

    def test_by_chance_with_many_deeds(self):
        for seed in range(40):
            chance = random.Random(seed)
            self.check_pair(random_change(chance, 1, 8, [A]), random_change(chance, 1, 8, [A]))

    def test_each_kind(self):
        for kind in KINDS:
            one, other = DATA[kind][:2]
            put, more = ([], [("add", (A, kind, 5, one))]), ([], [("add", (A, kind, 5, one)), ("add", (A, kind, 5, other))])
            self.assertEqual([], apart(put, more))
            self.check_least(apart(put, ([], [("clear", A, kind)])), [{}], judge_apart, put, ([], [("clear", A, kind)]))
            clear, drop = ([], [("clear", A, kind)]), ([], [("drop", A)])
            parted = apart(clear, drop)
            self.assertEqual([1, True], [number(parted), parted[0][1] != kind])
            rest = ([], [("take", A, kind, data) for data in DATA[kind]])
            left = apart(clear, rest)
            self.assertEqual([1, True], [number(left), left[0][3][0] not in DATA[kind]])


class SmallTest(unittest.TestCase):
    def test_six_pairs_with_three_data(self):
        names = [A, B, BELOW, (), WILD, ("c", "b", "a")]
        deeds = [("add", (name, "addr", 5, data)) for name in names for data in [1, 2, 3]]
        self.assertIsNone(apart(([], deeds), ([], deeds[::-1])))
        self.assertIsNone(order_apart(([], deeds), ([], deeds[::-1])))
        full = [("just", name, "addr", (1, 2, 3)) for name in names]
        book = apart((full, deeds[:1]), (full, [("drop", A)]))
        self.assertEqual([("a",), 18], [book[0][0] if book[0][0] else book[1][0], number(book)])
        self.assertEqual((full, [("drop", A)]), lean((full + full, [("drop", A), ("drop", A), ("clear", A, "addr")])))
        self.assertEqual((full, [("drop", A)]), lean((full + full, [("clear", A, "addr"), ("drop", A), ("clear", A, "text")])))

    def test_forty_names(self):
        there = [("there", (f"n{index}",)) for index in range(40)]
        drops = [("drop", (f"n{index}",)) for index in range(40)]
        self.assertEqual(40, number(apart((there, drops), ([], []))))
        self.assertEqual(39, number(apart((there, drops), (there[1:], drops))))
        self.assertIsNone(order_apart((there, drops), (there, drops)))
        self.assertEqual("never", behind((there, drops), (there[:1], [])))
        self.assertEqual((there, drops), lean((there, drops)))

    def test_forty_entries(self):
        deeds = [("add", (A, "addr", 5, data)) for data in [1, 2, 3]]
        takes = [("take", A, "addr", 1 + index % 3) for index in range(37)]
        self.assertEqual(([], deeds), lean(([], takes + deeds)))
        self.assertEqual(([("has", A, "addr")], deeds), lean(([("there", A)] * 20 + [("has", A, "addr")] * 20, takes + deeds)))

    def test_contradictions(self):
        for conditions in [[("there", A), ("free", A)], [("has", A, "addr"), ("lacks", A, "addr")], [("free", A), ("has", A, "text")],
                           [("just", A, "addr", (1,)), ("just", A, "addr", (2,))], [("just", A, "addr", (1,)), ("lacks", A, "addr")]]:
            change = (conditions, [("drop", A)])
            self.assertEqual(["never", True, ([], []), None], [when(change), idle(change), lean(change), apart(change, ([], []))])
            self.assertEqual(["never", "never"], [behind(change, ([], [])), behind(([], []), change)])
            self.assertEqual("never", behind(change, change))

    def test_ages_that_deeds_give(self):
        one, other = ([], [("add", (A, "addr", 5, 1))]), ([], [("add", (A, "addr", 6, 1))])
        self.assertEqual([[], []], [apart(one, other), order_apart(one, other)])
        again = ([], [("add", (A, "addr", 5, 1)), ("add", (A, "addr", 6, 1))])
        self.assertIsNone(apart(other, again))
        # An age parts what is put in from what was there, whatever age the deed gives.
        for age in [0, 1, 2 ** 31 - 1]:
            just = ([("just", A, "addr", (1,))], [("add", (A, "addr", age, 1))])
            book = apart(just, ([], []))
            self.assertEqual([1, True], [number(book), book[0][2] != age])
            self.assertFalse(judge_apart(just, ([], []), [(A, "addr", age, (1,))]))
            self.assertTrue(judge_apart(just, ([], []), [(A, "addr", 7, (1,))]))

    def test_order_with_conditions(self):
        put, first = ([], [("add", (A, "addr", 5, 1))]), ([("free", A)], [("add", (A, "text", 5, "x"))])
        self.assertEqual([], order_apart(put, first))
        self.assertEqual(["never", "always"], [behind(put, first), behind(first, put)])
        clear = ([("has", A, "addr")], [("drop", A)])
        self.assertEqual(["always", "never"], [behind(put, clear), behind(clear, clear)])
        self.assertEqual([], order_apart(put, clear))
        self.assertIsNone(order_apart(clear, clear))


class JudgesTest(unittest.TestCase):
    ONE = ([("has", A, "addr")], [("clear", A, "addr")])
    OTHER = ([], [])

    def judged(self, value):
        return [judge_apart(self.ONE, self.OTHER, value), judge_order(([], [("take", A, "addr", 1)]), ([("there", A)], [("add", (B, "addr", 5, 1))]), value)]

    def test_right(self):
        self.assertEqual([True, True], self.judged([(A, "addr", 5, (1,))]))
        self.assertEqual([True, True], self.judged([(A, "addr", 2 ** 31 - 1, (1,))]))
        self.assertEqual([True, False], self.judged([(A, "addr", 5, (2,))]))

    def test_wrong(self):
        wrong = [
            [], [(A, "addr", 5, (1, 2))], [(A, "addr", 5, (1,)), (B, "addr", 5, (1,))], [(B, "addr", 5, (1,))], [(A, "text", 5, ("x",))],
            [(A, "addr", 5, (1,)), (A, "addr", 5, (1,))], [(A, "addr", 5, (1,)), (A, "addr", 6, (2,))], [(A, "addr", 5, ())],
            [(A, "addr", 5, 1)], [(A, "addr", 5, [1])], [(A, "addr", True, (1,))], [(A, "addr", 5, (True,))], [(A, "addr", -1, (1,))],
            [(A, "addr", 2 ** 31, (1,))], [[A, "addr", 5, (1,)]], [(["a"], "addr", 5, (1,))], [(A, "addr", 5, (1,), 5)], [(A, "addr", 5)],
            [(("A",), "addr", 5, (1,))], [(A, "adr", 5, (1,))], [(A, "addr", 5, (-1,))], ((A, "addr", 5, (1,)),), (A, "addr", 5, (1,)),
            {0: (A, "addr", 5, (1,))}, [(A, "addr", 5, (1, 1))], [None], [()]]
        for value in wrong + NOTHING_AT_ALL + [[value] for value in NOTHING_AT_ALL] + [nested(list, 99), nested(tuple, 99)]:
            self.assertEqual([False, False], self.judged(value), value)

    def test_sets_in_order(self):
        change = ([("has", A, "addr"), ("has", B, "addr"), ("has", A, "text")], [("drop", A)])
        sets = [(A, "addr", 5, (1,)), (A, "text", 6, ("x",)), (B, "addr", 7, (3,))]
        self.assertTrue(judge_apart(change, ([], []), sets))
        for wrong in [sets[::-1], [sets[1], sets[0], sets[2]], sets + sets, sets[:2], sets + [(("c",), "addr", 5, (1,))],
                      [sets[0], sets[0], sets[2]], [(A, "addr", 5, (1, 2))] + sets[1:], [(A, "addr", 5, (2, 1))] + sets[1:]]:
            self.assertFalse(judge_apart(change, ([], []), wrong), wrong)

    def test_by_what_changed_tells(self):
        for seed in range(100):
            chance = random.Random(seed)
            one, other = random_change(chance), random_change(chance)
            for book in [apart(one, other), order_apart(one, other)]:
                if book is not None:
                    records = records_of(book)
                    unlike = changed(records, one) != changed(records, other)
                    first, last = changed(records_of(changed(records, one)), other), changed(records_of(changed(records, other)), one)
                    least, least_order = apart(one, other), order_apart(one, other)
                    self.assertEqual(unlike and number(least) == number(book), judge_apart(one, other, book))
                    self.assertEqual(first != last and number(least_order or []) == number(book), judge_order(one, other, book))
                    self.assertTrue(when(one) != "never" or not applies(records, one))


class ErrorsTest(unittest.TestCase):
    GOOD = ([("has", A, "addr")], [("drop", A)])

    def test_first_wrong_entry(self):
        pairs = [apart, order_apart, behind, lambda one, other: judge_apart(one, other, []), lambda one, other: judge_order(one, other, [])]
        wrong = ("has", A, ["x"])
        cases = [
            (([wrong, ("no",)], [("drop", "a")]), self.GOOD, wrong), ((self.GOOD[0], [("drop", A), wrong]), ([None], []), wrong),
            (self.GOOD, ([None], [wrong]), None), (self.GOOD, ([], [("add", [A])]), ("add", [A])),
            (([("there", A)], [("there", A)]), self.GOOD, ("there", A)), (([("drop", A)], []), self.GOOD, ("drop", A))]
        for one, other, value in cases:
            for call in pairs:
                with self.assertRaises(InvalidDeed) as caught:
                    call(one, other)
                self.assertEqual(value, caught.exception.value)
                if value is not None:
                    self.assertIsNot(value, caught.exception.value)

    def test_one_change(self):
        for value in NOTHING_AT_ALL:
            for change in [([value], []), ([], [value]), ([("there", A)], [("drop", A), value])]:
                for call in [when, idle, lean]:
                    with self.assertRaises(InvalidDeed) as caught:
                        call(change)
                    self.assertEqual(value, caught.exception.value)
