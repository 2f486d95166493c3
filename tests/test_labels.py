"""Labels, names, their texts and their order."""

import unittest

from rootward.errors import InvalidName, OutOfZone, Unreadable
from rootward.labels import (
    common, compared, first, is_asked, is_label, is_name, is_under, labels_ahead, name_of, neighbours, ordered,
    show_name, size)
from tests.samples import NAMES, NOTHING_AT_ALL

# By hand: labels of one name begin with those of others, and names stand below one another.
IN_ORDER = [
    (), ("*",), ("0",), ("*", "0"), ("a", "0"), ("0-0",), ("00",), ("9",), ("a",),
    ("*", "a"), ("a", "a"), ("b", "a"), ("a", "b", "a"), ("zz", "a"), ("a-b",), ("0", "a-b"), ("a0",), ("aa",),
    ("a", "aa"), ("ab",), ("b",), ("a", "b"), ("net",), ("shop", "net"), ("www", "shop", "net"), ("z", "net"),
    ("net0",), ("a", "net0"), ("z",)]


class LabelTest(unittest.TestCase):
    def test_lengths(self):
        for length in range(1, 21):
            self.assertTrue(is_label("a" * length))
            self.assertTrue(is_label("0" * length))
            self.assertTrue(is_name(("z" * length, "b")))
        for length in [0, 21, 22, 60]:
            self.assertFalse(is_label("a" * length))
            self.assertFalse(is_name(("a" * length,)))

    def test_signs(self):
        good = "abcdefghijklmnopqrstuvwxyz0123456789"
        for code in list(range(256)) + [0x660, 0x3b1, 0xff11, 0x1f600]:
            sign = chr(code)
            self.assertEqual(sign in good or sign == "*", is_label(sign), sign)
            self.assertEqual(sign in good + "-", is_label("a" + sign + "a"), sign)
            self.assertEqual(sign in good, is_label("a" + sign), sign)
            self.assertEqual(sign in good, is_label(sign + "a"), sign)

    def test_hyphens(self):
        for text in ["a-b", "a--b", "0-0", "a-b-c", "a" + "-" * 18 + "b"]:
            self.assertTrue(is_label(text))
        for text in ["-", "--", "-a", "a-", "-a-", "a" * 19 + "--", "a-b-", "a" + "-" * 19]:
            self.assertFalse(is_label(text))

    def test_wild(self):
        self.assertTrue(is_label("*"))
        for text in ["**", "*a", "a*", "a*b", "*-", ""]:
            self.assertFalse(is_label(text))

    def test_other_objects(self):
        for value in NOTHING_AT_ALL + [("a",), (), ["a"], 1, b"a", {"a": 1}]:
            self.assertIs(False, is_label(value))


class NameTest(unittest.TestCase):
    def test_names(self):
        for name in NAMES:
            self.assertIs(True, is_name(name))
            self.assertIs("*" not in name, is_asked(name))
        self.assertTrue(is_name(("a",) * 500))
        self.assertTrue(is_name(("*",) + ("a",) * 500))

    def test_wild_names(self):
        for name in [("*",), ("*", "a"), ("*", "a", "b")]:
            self.assertTrue(is_name(name))
            self.assertFalse(is_asked(name))
        for name in [("a", "*"), ("*", "*"), ("*", "a", "*"), ("a", "*", "b"), ("*a",), ("**", "a")]:
            self.assertFalse(is_name(name))
            self.assertFalse(is_asked(name))

    def test_other_objects(self):
        for value in NOTHING_AT_ALL + ["a", "net.", "", "*", 0, 5, b"net."]:
            self.assertIs(False, is_name(value))
            self.assertIs(False, is_asked(value))

    def test_there_and_back(self):
        for name in NAMES + [("a",) * 40, ("x" * 20,) * 12]:
            self.assertEqual(name, name_of(show_name(name)))
        self.assertEqual("www.shop.net.", show_name(("www", "shop", "net")))
        self.assertEqual("*.net.", show_name(("*", "net")))
        self.assertEqual((), name_of("."))
        self.assertEqual(("*",), name_of("*."))

    def test_unreadable(self):
        texts = ["", "..", "net", "a.net", ".net.", "a..net.", "net..", " net.", "net. ", "Net.", "a.*.", "*.*.", "*",
                 "-a.", "a-.", "a_b.", "x" * 21 + ".", "...", "a.b", "net.\n", "\n"]
        for value in texts + [value for value in NOTHING_AT_ALL if not isinstance(value, str)]:
            with self.assertRaises(Unreadable) as caught:
                name_of(value)
            self.assertEqual(value, caught.exception.value)
        refused = ["net."]
        with self.assertRaises(Unreadable) as caught:
            name_of(refused)
        self.assertIsNot(refused, caught.exception.value)


class PlaceTest(unittest.TestCase):
    def test_under(self):
        for name in NAMES:
            for other in NAMES:
                ends = [name[cut:] for cut in range(len(name) + 1)]
                self.assertIs(other in ends, is_under(name, other))
                if other in ends:
                    self.assertEqual(name, labels_ahead(name, other) + other)
                else:
                    with self.assertRaises(OutOfZone) as caught:
                        labels_ahead(name, other)
                    self.assertEqual(name, caught.exception.value)
        self.assertFalse(is_under(("xnet",), ("net",)))
        self.assertFalse(is_under(("net", "a"), ("net",)))

    def test_common(self):
        for name in NAMES:
            for other in NAMES:
                shared = [name[cut:] for cut in range(len(name) + 1) if is_under(other, name[cut:])]
                self.assertEqual(shared[0], common(name, other))
        self.assertEqual(("c",), common(("a", "b", "c"), ("b", "a", "c")))
        self.assertEqual((), common(("a", "b"), ("a", "c")))

    def test_order_by_hand(self):
        for at, name in enumerate(IN_ORDER):
            for other_at, other in enumerate(IN_ORDER):
                self.assertEqual((at > other_at) - (at < other_at), compared(name, other), (name, other))

    def test_ordered(self):
        self.assertEqual(IN_ORDER, ordered(IN_ORDER[::-1]))
        self.assertEqual(IN_ORDER, ordered(IN_ORDER[5:] + IN_ORDER + IN_ORDER[:7]))
        self.assertEqual([], ordered([]))

    def test_neighbours(self):
        for at, name in enumerate(IN_ORDER):
            ahead = IN_ORDER[at]
            behind = IN_ORDER[at + 1] if at + 1 < len(IN_ORDER) else None
            self.assertEqual((ahead, behind), neighbours(IN_ORDER[::-1], name))
            left = IN_ORDER[:at] + IN_ORDER[at + 1:]
            before = IN_ORDER[at - 1] if at > 0 else None
            self.assertEqual((before, behind), neighbours(left[::-1], name))
        self.assertEqual((None, None), neighbours([], ("a",)))
        self.assertEqual((("a",), None), neighbours([("a",), ("a",)], ("a",)))

    def test_size(self):
        self.assertEqual([1, 3, 4, 5], [size(name) for name in [(), ("a",), ("ab",), ("a", "b")]])
        self.assertEqual(7, size(("*", "net")))
        self.assertEqual(1 + 12 * 21, size(("x" * 20,) * 12))

    def test_first(self):
        self.assertIsNone(first([]))
        self.assertEqual((), first([("a",), ()]))
        self.assertEqual(("b", "a"), first([("abc",), ("a", "b"), ("b", "a"), ("b", "a")]))
        self.assertEqual(("aaa",), first([("a", "b"), ("aaa",)]))
        self.assertEqual(("z",), first([("a", "0"), ("z",)]))


class WrongNameTest(unittest.TestCase):
    def check(self, value, call):
        with self.assertRaises(InvalidName) as caught:
            call()
        self.assertEqual(value, caught.exception.value)

    def test_one_name(self):
        for value in NOTHING_AT_ALL:
            self.check(value, lambda: show_name(value))
            self.check(value, lambda: size(value))

    def test_two_names(self):
        for call in [is_under, labels_ahead, common, compared]:
            for value in NOTHING_AT_ALL:
                self.check(value, lambda: call(value, ("a",)))
                self.check(value, lambda: call(("a",), value))
                self.check(value, lambda: call(value, ["later"]))

    def test_each_place_of_a_list(self):
        for value in NOTHING_AT_ALL:
            for at in range(3):
                names = [("c",), ("b",), ("a",)]
                names[at] = value
                names.append(["later"])
                for call in [ordered, first, lambda names: neighbours(names, ["later"])]:
                    self.check(value, lambda: call(names))
            self.check(value, lambda: neighbours([("a",)], value))
            self.check(value, lambda: neighbours([], value))

    def test_what_is_refused_is_built_anew(self):
        inner = ["x"]
        thing = {"k": inner}
        refused = (inner, [inner, thing])
        with self.assertRaises(InvalidName) as caught:
            size(refused)
        value = caught.exception.value
        self.assertEqual(refused, value)
        self.assertIsNot(inner, value[0])
        self.assertIsNot(inner, value[1][0])
        self.assertIsNot(value[0], value[1][0])
        self.assertIs(thing, value[1][1])
        self.assertIs(inner, thing["k"])
