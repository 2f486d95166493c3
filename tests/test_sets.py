"""Sets of records, and their order."""

import random
import unittest

from rootward.errors import InvalidRecord, UnlikeAges
from rootward.records import data_compared, first_unlike, records_of, sets_of
from rootward.labels import compared
from tests.samples import DATA, KINDS, NOTHING_AT_ALL

NAMES_IN_ORDER = [(), ("*",), ("a",), ("*", "a"), ("a", "a"), ("b", "a"), ("aa",), ("a", "aa"), ("b",)]


def all_records(age):
    return [(name, kind, age, data) for name in NAMES_IN_ORDER for kind in KINDS for data in DATA[kind]]


class SetsTest(unittest.TestCase):
    def test_by_hand(self):
        a, b, ab = ("a",), ("b",), ("a", "b")
        records = [
            (ab, "text", 1, "b"), (b, "mail", 2, (10, a)), (b, "addr", 3, 10), (a, "text", 4, "x"), (b, "addr", 3, 9),
            (b, "mail", 2, (9, b)), (ab, "text", 1, "a"), (b, "addr", 3, 10), (b, "mail", 2, (10, ("z", "0")))]
        sets = [
            (a, "text", 4, ("x",)), (b, "addr", 3, (9, 10)), (b, "mail", 2, ((9, b), (10, ("z", "0")), (10, a))),
            (ab, "text", 1, ("a", "b"))]
        self.assertEqual(sets, sets_of(records))
        self.assertEqual(sets, sets_of(records[::-1]))
        self.assertEqual(sets, sets_of(records + records))
        self.assertEqual([], sets_of([]))

    def test_order(self):
        records = all_records(5)
        random.Random(1).shuffle(records)
        sets = sets_of(records)
        self.assertEqual([(name, kind) for name in NAMES_IN_ORDER for kind in KINDS], [entry[:2] for entry in sets])
        for name, kind, age, datas in sets:
            self.assertEqual(5, age)
            self.assertEqual(len(DATA[kind]), len(datas))
            self.assertTrue(all([data_compared(kind, datas[at], datas[at + 1]) < 0 for at in range(len(datas) - 1)]))

    def test_records_of(self):
        records = all_records(5)
        random.Random(2).shuffle(records)
        sets = sets_of(records)
        told = records_of(sets)
        self.assertEqual(told, records_of(sets[::-1]))
        self.assertEqual(told, records_of(sets + sets))
        self.assertEqual(sets, sets_of(told))
        self.assertEqual(len(records), len(told))
        for one, other in zip(told, told[1:]):
            by = [compared(one[0], other[0]), (one[1] > other[1]) - (one[1] < other[1])]
            by.append(data_compared(one[1], one[3], other[3]) if one[1] == other[1] else 0)
            self.assertEqual(-1, [step for step in by if step != 0][0])
        self.assertEqual([], records_of([]))
        self.assertEqual([(("a",), "addr", 1, 2), (("a",), "addr", 1, 3)], records_of([(("a",), "addr", 1, (3, 2))]))

    def test_no_record(self):
        good = (("a",), "addr", 1, 5)
        for value in NOTHING_AT_ALL + [(("a",), "addr", 1, True), (("a",), "mail", 1, [1, ("a",)])]:
            for at in range(3):
                records = [good, good, good]
                records[at] = value
                records = records + [["later"], (("a",), "addr", 2, 5)]
                for call in [lambda: sets_of(records), lambda: first_unlike(records, [["later"]]),
                             lambda: first_unlike([good], records)]:
                    with self.assertRaises(InvalidRecord) as caught:
                        call()
                    self.assertEqual(value, caught.exception.value)

    def test_no_record_in_sets(self):
        for entry, value in [((("a",), "addr", 1, (5, True)), (("a",), "addr", 1, True)),
                             ((("a",), "none", 1, (5, 6)), (("a",), "none", 1, 5))]:
            with self.assertRaises(InvalidRecord) as caught:
                records_of([(("a",), "addr", 2, (5,)), entry])
            self.assertEqual(value, caught.exception.value)

    def test_no_sets(self):
        datas = [5]
        for entry in NOTHING_AT_ALL + [(("a",), "addr", 1), (("a",), "addr", 1, datas), (("a",), "addr", 1, (5,), 6)]:
            with self.assertRaises(InvalidRecord) as caught:
                records_of([(("a",), "addr", 2, (5,)), entry, ["later"]])
            self.assertEqual(entry, caught.exception.value)
        with self.assertRaises(InvalidRecord) as caught:
            records_of([(("a",), "addr", 1, datas)])
        self.assertIsNot(datas, caught.exception.value[3])

    def test_unlike_ages(self):
        a, b = ("a",), ("b",)
        records = [(b, "addr", 1, 5), (b, "addr", 2, 5), (a, "text", 1, "x"), (a, "text", 2, "y"), (a, "addr", 1, 5)]
        with self.assertRaises(UnlikeAges) as caught:
            sets_of(records)
        self.assertEqual((a, "text"), caught.exception.value)
        with self.assertRaises(UnlikeAges) as caught:
            sets_of(records[:3])
        self.assertEqual((b, "addr"), caught.exception.value)
        with self.assertRaises(UnlikeAges) as caught:
            records_of([(b, "addr", 1, (5,)), (b, "addr", 2, (6,))])
        self.assertEqual((b, "addr"), caught.exception.value)

    def test_first_unlike_errors(self):
        unlike = [(("b",), "addr", 1, 5), (("b",), "addr", 2, 5)]
        with self.assertRaises(UnlikeAges):
            first_unlike(unlike, [["no record"]])
        with self.assertRaises(UnlikeAges) as caught:
            first_unlike([(("a",), "addr", 1, 5)], unlike)
        self.assertEqual((("b",), "addr"), caught.exception.value)

    def test_first_unlike(self):
        a, b = ("a",), ("b",)
        one = [(a, "addr", 1, 5), (a, "addr", 1, 6), (a, "text", 1, "x"), (b, "addr", 1, 5)]
        self.assertIsNone(first_unlike(one, one[::-1] + one))
        self.assertIsNone(first_unlike([], []))
        for at, key in enumerate([(a, "addr"), (a, "addr"), (a, "text"), (b, "addr")]):
            left = one[:at] + one[at + 1:]
            self.assertEqual(key, first_unlike(one, left))
            self.assertEqual(key, first_unlike(left, one))
        self.assertEqual((a, "mail"), first_unlike([(b, "addr", 1, 5)], [(a, "text", 1, "x"), (a, "mail", 1, (1, a))]))
        self.assertEqual((a, "mail"), first_unlike([(a, "text", 1, "x")], [(a, "mail", 1, (1, a)), (b, "addr", 1, 5)]))
        aged = one[:3] + [(b, "addr", 2, 5)]
        self.assertEqual((b, "addr"), first_unlike(one, aged))
        self.assertEqual((a, "text"), first_unlike(aged, [record for record in one if record[1] == "addr"]))
        self.assertEqual((a, "mail"), first_unlike(one, one + [(a, "mail", 1, (1, a))]))
