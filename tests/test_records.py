"""Kinds, data and records."""

import unittest

from rootward.errors import InvalidKind, InvalidName, InvalidRecord
from rootward.labels import compared
from rootward.records import data_compared, is_data, is_kind, is_record, names_in, put_below
from tests.samples import DATA, KINDS, NOTHING_AT_ALL

GOOD = {
    "addr": [0, 1, 2 ** 32 - 1],
    "alias": [(), ("a",), ("b", "a"), ("a",) * 12],
    "back": [(), ("a",)],
    "mail": [(0, ()), (65535, ("a", "b")), (1, ("a",))],
    "server": [(), ("n", "net")],
    "start": [((), 0, 0, 0, 0, 0), (("a",), 2 ** 32 - 1) + (2 ** 31 - 1,) * 4],
    "text": ["", " ", "a" * 60, "~", " !\"#$&'()*+,-./09:;<=>?@AZ[\\]^_`az{|}~"],
    "tree": [(), ("a", "b")],
}

BAD = {
    "addr": [-1, 2 ** 32, True, False, "0", None, (0,), [0]],
    "alias": [("*",), ("*", "a"), ["a"], "a", "a.", ("A",), 0, None],
    "back": [("*",), [], "", [()]],
    "mail": [(-1, ()), (65536, ()), (True, ("a",)), (0, ("*",)), (0, ["a"]), [0, ("a",)], (0,), (0, (), ()), (("a",), 0),
             ("0", ()), ((), ()), ()],
    "server": [("*", "a"), ["n"], None],
    "start": [((), 0, 0, 0, 0), ((), 0, 0, 0, 0, 0, 0), [(), 0, 0, 0, 0, 0], (("*",), 0, 0, 0, 0, 0), ([], 0, 0, 0, 0, 0),
              ((), -1, 0, 0, 0, 0), ((), 2 ** 32, 0, 0, 0, 0), ((), 0, 2 ** 31, 0, 0, 0), ((), 0, 0, 2 ** 31, 0, 0),
              ((), 0, 0, 0, 2 ** 31, 0), ((), 0, 0, 0, 0, 2 ** 31), ((), 0, -1, 0, 0, 0), ((), 0, 0, -1, 0, 0),
              ((), 0, 0, 0, -1, 0), ((), 0, 0, 0, 0, -1), ((), True, 0, 0, 0, 0), ((), 0, True, 0, 0, 0),
              ((), 0, 0, 0, 0, False), ((), 0, 0, 0, 0, None), ()],
    "text": ["a" * 61, "50%", "%", "\n", "\t", "\x7f", "\x1f", "\u00e4", "a\n", None, 5, ["a"], ("a",), b"a", ()],
    "tree": [("*",), ["a"], ("a", "*"), 5],
}


class KindTest(unittest.TestCase):
    def test_kinds(self):
        for kind in KINDS:
            self.assertIs(True, is_kind(kind))
        for value in NOTHING_AT_ALL + ["", "Addr", "addr ", "start.", "kind", ("addr",), ["addr"], {"addr": 1}, b"addr"]:
            self.assertIs(False, is_kind(value))


class DataTest(unittest.TestCase):
    def test_good(self):
        for kind in KINDS:
            for data in GOOD[kind]:
                self.assertIs(True, is_data(kind, data), (kind, data))
                self.assertIs(True, is_record((("a",), kind, 0, data)))

    def test_bad(self):
        for kind in KINDS:
            for data in BAD[kind]:
                self.assertIs(False, is_data(kind, data), (kind, data))
                self.assertIs(False, is_record((("a",), kind, 0, data)))

    def test_any_object(self):
        for kind in KINDS:
            for value in NOTHING_AT_ALL:
                self.assertIs(False, is_data(kind, value), (kind, value))

    def test_no_kind(self):
        for kind in NOTHING_AT_ALL + ["none", ["addr"], ("addr", [1])]:
            for call in [lambda: is_data(kind, 5), lambda: data_compared(kind, 5, 6)]:
                with self.assertRaises(InvalidKind) as caught:
                    call()
                self.assertEqual(kind, caught.exception.value)
        refused = [[]]
        with self.assertRaises(InvalidKind) as caught:
            is_data(refused, 5)
        self.assertIsNot(refused, caught.exception.value)
        self.assertIsNot(refused[0], caught.exception.value[0])


class ComparedTest(unittest.TestCase):
    ASCENDING = {
        "addr": [0, 2, 10, 2 ** 32 - 1],
        "alias": [(), ("a",), ("z", "a"), ("b",), ("a", "b")],
        "back": [("z", "a"), ("a", "b")],
        "mail": [(2, ("b",)), (10, ("z", "a")), (10, ("a", "b")), (11, ())],
        "server": [("z", "a"), ("aa",), ("a", "b")],
        "start": [(("z", "a"), 9, 9, 9, 9, 9), (("a", "b"), 1, 2, 3, 4, 5), (("a", "b"), 1, 2, 3, 4, 10),
                  (("a", "b"), 1, 2, 3, 5, 0), (("a", "b"), 1, 2, 10, 0, 0), (("a", "b"), 1, 3, 0, 0, 0),
                  (("a", "b"), 10, 0, 0, 0, 0)],
        "text": ["", " ", "10", "2", "A", "a", "a ", "aa", "b"],
        "tree": [("z", "a"), ("a", "b")],
    }

    def test_order(self):
        for kind in KINDS:
            datas = self.ASCENDING[kind]
            for at, data in enumerate(datas):
                for other_at, other in enumerate(datas):
                    self.assertEqual((at > other_at) - (at < other_at), data_compared(kind, data, other))

    def test_names_compare_as_names(self):
        for kind in ["alias", "back", "server", "tree"]:
            for one in GOOD["alias"] + [("a", "b"), ("b",)]:
                for other in GOOD["alias"] + [("a", "b"), ("b",)]:
                    self.assertEqual(compared(one, other), data_compared(kind, one, other))


class RecordTest(unittest.TestCase):
    def test_records(self):
        for name in [(), ("a",), ("*",), ("*", "a"), ("a",) * 12]:
            for age in [0, 1, 2 ** 31 - 1]:
                for kind in KINDS:
                    for data in DATA[kind]:
                        self.assertIs(True, is_record((name, kind, age, data)))

    def test_no_records(self):
        for age in [-1, 2 ** 31, True, False, None, "5", (5,)]:
            self.assertIs(False, is_record((("a",), "addr", age, 5)))
        for name in NOTHING_AT_ALL:
            self.assertIs(False, is_record((name, "addr", 5, 5)))
        for kind in NOTHING_AT_ALL + ["none"]:
            self.assertIs(False, is_record((("a",), kind, 5, 5)))
        for value in NOTHING_AT_ALL + [[("a",), "addr", 5, 5], (("a",), "addr", 5), (("a",), "addr", 5, 5, 5), ()]:
            self.assertIs(False, is_record(value))


class NamesInTest(unittest.TestCase):
    def test_names(self):
        for kind in KINDS:
            for data in GOOD[kind]:
                names = names_in((("*", "o"), kind, 1, data))
                if kind in ["addr", "text"]:
                    self.assertEqual([], names)
                elif kind == "mail":
                    self.assertEqual([data[1]], names)
                elif kind == "start":
                    self.assertEqual([data[0]], names)
                else:
                    self.assertEqual([data], names)

    def test_no_record(self):
        for value in NOTHING_AT_ALL + [(("a",), "addr", 5, True), (("a",), "alias", 5, [["a"]])]:
            with self.assertRaises(InvalidRecord) as caught:
                names_in(value)
            self.assertEqual(value, caught.exception.value)


class PutBelowTest(unittest.TestCase):
    def test_owners_and_data(self):
        old, new = ("x", "net"), ("org",)
        start = (("n", "x", "net"), 1, 2, 3, 4, 5)
        records = [
            (("b", "x", "net"), "addr", 1, 9), (("x", "net"), "alias", 2, ("a", "x", "net")),
            (("net",), "back", 3, ("x", "net")), (("y", "net"), "mail", 4, (7, ("m", "x", "net"))),
            (("xx", "net"), "server", 5, ("net",)), (("*", "x", "net"), "text", 6, "x.net."),
            (("x",), "tree", 7, ("x", "net", "a")), (("x", "net"), "start", 8, start), ((), "server", 9, ())]
        moved = [
            (("b", "org"), "addr", 1, 9), (("org",), "alias", 2, ("a", "org")),
            (("net",), "back", 3, ("org",)), (("y", "net"), "mail", 4, (7, ("m", "org"))),
            (("xx", "net"), "server", 5, ("net",)), (("*", "org"), "text", 6, "x.net."),
            (("x",), "tree", 7, ("x", "net", "a")), (("org",), "start", 8, (("n", "org"), 1, 2, 3, 4, 5)),
            ((), "server", 9, ())]
        self.assertEqual(moved, put_below(records, old, new))
        self.assertEqual(moved[::-1], put_below(records[::-1], old, new))

    def test_from_and_to_the_root(self):
        records = [(("a",), "alias", 1, ()), ((), "mail", 1, (0, ("b",)))]
        below = [(("a", "z"), "alias", 1, ("z",)), (("z",), "mail", 1, (0, ("b", "z")))]
        self.assertEqual(below, put_below(records, (), ("z",)))
        self.assertEqual(records, put_below(below, ("z",), ()))

    def test_each_once(self):
        one, other = (("a",), "addr", 1, 5), (("b",), "addr", 1, 5)
        self.assertEqual([one], put_below([one, one], ("q",), ("r",)))
        self.assertEqual([other], put_below([one, other, one], ("a",), ("b",)))
        self.assertEqual([], put_below([], ("a",), ("b",)))

    def test_errors_in_their_order(self):
        good = (("a",), "addr", 1, 5)
        for value in NOTHING_AT_ALL:
            for at in range(3):
                records = [good, good, good]
                records[at] = value
                with self.assertRaises(InvalidRecord) as caught:
                    put_below(records + [["later"]], ["x"], ["y"])
                self.assertEqual(value, caught.exception.value)
        for value in NOTHING_AT_ALL + [("*",), ("*", "a")]:
            with self.assertRaises(InvalidName) as caught:
                put_below([good], value, ["y"])
            self.assertEqual(value, caught.exception.value)
            with self.assertRaises(InvalidName) as caught:
                put_below([good], ("x",), value)
            self.assertEqual(value, caught.exception.value)
