"""Messages, replies, and what answers tell."""

import unittest

from rootward.answers import chase, reply
from rootward.errors import InvalidKind, InvalidMessage, InvalidName, InvalidNumber
from rootward.labels import size
from rootward.messages import is_message, question, records_of, replied, told_of
from tests.samplemessages import EMPTY, FULL, NET, START, WILD, WWW, large_name, random_message
from tests.samples import KINDS, NOTHING_AT_ALL, nested, random_zone, shop_zone, zone_with

FLAGS = ["cut", "deep", "deeper", "reply", "sure"]


def answers_only(records):
    return (0, (), 0, [], records, [], [])


class MessageTest(unittest.TestCase):
    def raises(self, error, value, call, *arguments):
        with self.assertRaises(error) as caught:
            call(*arguments)
        self.assertEqual(value, caught.exception.value)

    def test_is_message(self):
        for message in [FULL, EMPTY, (65535,) + FULL[1:], FULL[:1] + (tuple(FLAGS),) + FULL[2:], FULL[:2] + (15,) + FULL[3:],
                        FULL[:3] + ([], [], [START, START], [])] + [random_message(seed) for seed in range(50)]:
            self.assertTrue(is_message(message), message)

    def test_each_part_changed_alone(self):
        wrong = {
            0: [-1, 65536, True, "5", None], 1: [("deep", "cut"), ("deep", "deep"), ["deep"], "deep", ("Deep",), ("",), (1,), (None,), ([],), ("law",)],
            2: [-1, 16, False, None], 3: [((WWW, "addr"),), [[WWW, "addr"]], [(WILD, "addr")], [(WWW, "adr")], [(WWW,)], [(WWW, "addr", 5)], [None]]}
        for place in [4, 5, 6]:
            wrong[place] = [(START,), [list(START)], [START[:3]], [START, None], [(WWW, "addr", 5, -1)], [(("a", "*"), "addr", 5, 1)], None, {}]
        for place, values in wrong.items():
            for value in values:
                self.assertFalse(is_message(FULL[:place] + (value,) + FULL[place + 1:]), value)
            for value in NOTHING_AT_ALL:
                if not (value == [] and place > 2):
                    self.assertFalse(is_message(FULL[:place] + (value,) + FULL[place + 1:]), value)
        for value in NOTHING_AT_ALL + [list(FULL), FULL[:6], FULL + ([],), nested(list, 99), nested(tuple, 99)]:
            self.assertFalse(is_message(value))
            for call in [lambda: replied(shop_zone(), value), lambda: records_of(value), lambda: told_of(value, ["x"], "x")]:
                self.raises(InvalidMessage, value, call)

    def test_question(self):
        self.assertEqual((7, ("deep",), 0, [(WWW, "addr")], [], [], []), question(7, WWW, "addr", True))
        self.assertEqual((65535, (), 0, [((), "tree")], [], [], []), question(65535, (), "tree", False))
        self.assertEqual(0, question(0, (), "tree", False)[0])
        for number in [-1, 65536, 10 ** 59]:
            self.raises(InvalidNumber, number, question, number, WILD, "adr", True)
        for name in NOTHING_AT_ALL + [WILD]:
            self.raises(InvalidName, name, question, 7, name, "adr", True)
        for kind in NOTHING_AT_ALL:
            self.raises(InvalidKind, kind, question, 7, WWW, kind, True)

    def test_records_of(self):
        records = [START, (WWW, "addr", 6, 1), (WWW, "addr", 5, 2), (WWW, "addr", 5, 1)]
        self.assertEqual([START, (WWW, "addr", 5, 1), (WWW, "addr", 6, 1), (WWW, "addr", 5, 2)],
                         records_of((0, (), 0, [], records, records[1:], [START])))
        self.assertEqual([], records_of(EMPTY))
        self.assertEqual([9, 9], [len(records_of(FULL)), len(records_of(FULL[:4] + (FULL[5] + FULL[6], FULL[4], FULL[6])))])


class RepliedTest(unittest.TestCase):
    def test_chases_with_each_end(self):
        zone = shop_zone()
        cases = [(("www", "net"), "addr", 0, True), (("q", "www", "net"), "addr", 3, True), (("www", "net"), "mail", 0, True),
                 (("x", "lab", "net"), "addr", 0, False), (("web", "net"), "text", 0, True), (("a", "old", "net"), "addr", 0, True),
                 (("a", "moved", "net"), "addr", 0, True), (("lab", "moved", "net"), "addr", 0, False)]
        for name, kind, status, is_sure in cases:
            told = replied(zone, question(9, name, kind, False))
            wanted = reply(zone, name, kind)
            self.assertEqual((9, ("reply", "sure") if is_sure else ("reply",), status, [(name, kind)]) + wanted[1:], told)
            self.assertEqual(status, wanted[0])
            self.assertEqual(("deep",) + told[1], replied(zone, question(9, name, kind, True))[1])

    def test_by_chance(self):
        for seed in range(60):
            zone = random_zone(seed)
            for name in [("a", "b") + zone.apex, zone.apex, ("c",) + zone.apex, ("a", "a", "b") + zone.apex]:
                for kind in KINDS:
                    told = replied(zone, question(1, name, kind, False))
                    self.assertTrue(is_message(told))
                    self.assertEqual(reply(zone, name, kind), (told[2],) + told[4:])
                    self.assertEqual(chase(zone, name, kind)[-1][1][0] != "cut", "sure" in told[1])

    def test_not_just_one_question(self):
        zone = shop_zone()
        for questions in [[], [(WWW, "addr"), (WWW, "addr")], [(WWW, "addr"), (("org",), "addr")]]:
            self.assertEqual((5, ("reply",), 1, questions, [], [], []), replied(zone, (5, ("cut", "sure"), 7, questions, [START], [], [START])))
            self.assertEqual(("deep", "reply"), replied(zone, (5, ("deep", "deeper"), 7, questions, [], [], []))[1])

    def test_outside(self):
        zone = shop_zone()
        for name in [(), ("org",), ("net", "org"), ("www", "nets")]:
            self.assertEqual((5, ("reply",), 5, [(name, "addr")], [], [], []), replied(zone, question(5, name, "addr", False)))
            self.assertEqual((5, ("deep", "reply"), 5, [(name, "addr")], [], [], []), replied(zone, question(5, name, "addr", True)))

    def test_nothing_else_counts(self):
        zone = shop_zone()
        plain = replied(zone, question(5, WWW, "addr", False))
        for flags in [("cut",), ("cut", "deeper", "reply", "sure"), ("sure",)]:
            self.assertEqual(plain, replied(zone, (5, flags, 15, [(WWW, "addr")], [START], [START], [START])))


class ToldTest(unittest.TestCase):
    def test_datas(self):
        message = answers_only([(WWW, "addr", 5, 7), (WWW, "addr", 6, 3), (WWW, "addr", 9, 7), (WWW, "text", 5, "x")])
        self.assertEqual([(3, 7), ("x",), None], [told_of(message, WWW, kind) for kind in ["addr", "text", "mail"]])
        self.assertIsNone(told_of(message, ("w", "www", "net"), "addr"))
        mails = answers_only([(WWW, "mail", 5, (1, ("a", "b"))), (WWW, "mail", 5, (1, ("b", "a"))), (WWW, "mail", 5, (0, ("z",)))])
        self.assertEqual(((0, ("z",)), (1, ("b", "a")), (1, ("a", "b"))), told_of(mails, WWW, "mail"))

    def test_answers_alone_tell(self):
        for place in [5, 6]:
            message = EMPTY[:place] + ([(WWW, "addr", 5, 7)],) + EMPTY[place + 1:]
            self.assertIsNone(told_of(message, WWW, "addr"))

    def test_aliases(self):
        a, b, c = ("a",), ("b",), ("c",)
        message = answers_only([(a, "alias", 5, b), (a, "alias", 5, c), (b, "addr", 5, 1), (c, "addr", 5, 2)])
        self.assertEqual([(1,), (b, c)], [told_of(message, a, kind) for kind in ["addr", "alias"]])
        self.assertEqual((1,), told_of(answers_only([(a, "alias", 5, b), (b, "alias", 5, c), (c, "addr", 5, 1)]), a, "addr"))
        self.assertEqual((7,), told_of(answers_only([(a, "alias", 5, b), (a, "addr", 5, 7), (b, "addr", 5, 1)]), a, "addr"))
        for ring in [[(a, "alias", 5, a)], [(a, "alias", 5, b), (b, "alias", 5, a)], [(a, "alias", 5, b), (b, "alias", 5, c), (c, "alias", 5, b)]]:
            self.assertIsNone(told_of(answers_only(ring), a, "addr"))

    def test_trees(self):
        a, b, top = ("a",), ("b", "a"), ("top",)
        rows = [(a, "tree", 5, top), (b, "tree", 5, ("x", "top")), (a, "tree", 5, ("no",)), (("q", "top"), "addr", 5, 1), (("q", "x", "top"), "addr", 5, 2)]
        for records in [rows, rows[1:2] + rows[:1] + rows[2:]]:
            message = answers_only(records)
            self.assertEqual([(1,), (2,)], [told_of(message, ("q",) + owner, "addr") for owner in [a, b]])
            self.assertIsNone(told_of(message, a, "addr"))
            self.assertEqual([(("no",), top), (("x", "top"),)], [told_of(message, owner, "tree") for owner in [a, b]])
        alias = answers_only(rows + [(("q", "b", "a"), "alias", 5, ("q", "top"))])
        self.assertEqual((1,), told_of(alias, ("q", "b", "a"), "addr"))
        self.assertEqual((2,), told_of(message, ("q", "b", "a"), "addr"))
        root = answers_only([((), "tree", 5, ("net",)), (WWW, "addr", 5, 4)])
        self.assertEqual((4,), told_of(root, ("www",), "addr"))
        self.assertIsNone(told_of(root, (), "addr"))
        wild = answers_only([(WILD, "tree", 5, ("org",)), (WILD, "addr", 5, 4), (WILD, "alias", 5, WWW)])
        self.assertIsNone(told_of(wild, ("x", "y", "net"), "addr"))

    def test_sizes(self):
        for many, told in [(255, (4,)), (256, None)]:
            name = large_name(many)
            self.assertEqual(many, size(name))
            message = answers_only([(name, "addr", 5, 4), (("a",), "alias", 5, name)])
            self.assertEqual(told, told_of(message, ("a",), "addr"))
            self.assertEqual(told, told_of(message, name, "addr"))
            grown = answers_only([(("a",), "tree", 5, name[1:]), (name, "addr", 5, 4)])
            self.assertEqual(told, told_of(grown, (name[0], "a"), "addr"))

    def test_hundred_names(self):
        names = [(f"n{index}",) for index in range(102)]
        records = [(one, "alias", 5, other) for one, other in zip(names, names[1:])] + [(names[101], "addr", 5, 4)]
        self.assertEqual([None, (4,), (4,)], [told_of(answers_only(records), names[at], "addr") for at in [1, 2, 101]])
        self.assertIsNone(told_of(answers_only([(("a",), "tree", 5, ("b", "a"))]), ("c", "a"), "addr"))

    def test_what_zones_reply(self):
        zone = zone_with((), [(("m",), "alias", 9, ("n",)), (("n",), "addr", 60, 5), (("t",), "tree", 9, ()), (("k",), "alias", 3, ("m", "t"))])
        for name in [("m",), ("n",), ("m", "t"), ("k", "t"), ("k",), ("k", "t", "t")]:
            self.assertEqual((5,), told_of(replied(zone, question(1, name, "addr", True)), name, "addr"))
        self.assertIsNone(told_of(replied(zone, question(1, ("z",), "addr", True)), ("z",), "addr"))

    def test_errors(self):
        for name in NOTHING_AT_ALL + [WILD]:
            with self.assertRaises(InvalidName) as caught:
                told_of(EMPTY, name, "adr")
            self.assertEqual(name, caught.exception.value)
        for kind in NOTHING_AT_ALL:
            with self.assertRaises(InvalidKind) as caught:
                told_of(EMPTY, NET, kind)
            self.assertEqual(kind, caught.exception.value)
