"""Manners of changes for all books, journals, texts, messages and bytes."""

import copy
import unittest

from rootward import allchanges, journals, messages, wirereads, wires, zonereads, zonetexts
from rootward.errors import InvalidDeed, InvalidKind, InvalidMessage, InvalidName, InvalidNumber, InvalidSerial, Unreadable
from tests.manners import Manners, check_refused, seen, spoil
from tests.samplemessages import FULL, WWW
from tests.samples import nested, shop_zone, start_at, zone_with

A, NET = ("a",), ("net",)
ONE = ([("has", A, "addr"), ("free", NET)], [("add", (A, "addr", 5, 1)), ("drop", NET)])
OTHER = ([("there", A)], [("take", A, "addr", 1), ("clear", A, "text")])
RECORDS = [(A, "addr", 5, 1), (A, "addr", 5, 2)]
ZONE, LATER = zone_with((), RECORDS), zone_with((), RECORDS[1:] + [(("b",), "text", 5, "x")], serial=2)
DIFFERENCE = (1, 2, [start_at((), serial=1), RECORDS[0]], [start_at((), serial=2), (("b",), "text", 5, "x")])
JOURNAL = [DIFFERENCE, (2, 1, DIFFERENCE[3], DIFFERENCE[2])]
TEXT = "zone net.\n@ 60 start n 1 2 3 4 50\n 60 server n ; one\n"


def pairs():
    return {"one": copy.deepcopy(ONE), "other": copy.deepcopy(OTHER)}


class TextsTest(Manners, unittest.TestCase):
    MODULES = [allchanges, journals, zonetexts, zonereads, messages, wires, wirereads]
    HELPERS = ["Reading", "Writing", "read_age"]

    def calls(self):
        zone, code = shop_zone(), wires.packed(FULL)
        rows = [(allchanges, word, pairs()) for word in ["apart", "order_apart", "behind"]]
        rows.extend([(allchanges, word, {"change": copy.deepcopy(ONE)}) for word in ["when", "idle", "lean"]])
        rows.extend([(allchanges, word, {**pairs(), "value": [(A, "addr", 5, (1,))]}) for word in ["judge_apart", "judge_order"]])
        rows.extend([
            (journals, "is_difference", {"value": DIFFERENCE}), (journals, "difference", {"one": ZONE, "other": LATER}),
            (journals, "brought", {"zone": ZONE, "difference": DIFFERENCE}), (journals, "turned_back", {"difference": DIFFERENCE}),
            (journals, "put_together", {"differences": [DIFFERENCE]}), (journals, "chain", {"journal": JOURNAL, "old": 1, "new": 2}),
            (journals, "weight", {"journal": JOURNAL, "indexes": [1, 0]}), (journals, "caught_up", {"zone": ZONE, "journal": JOURNAL, "new": 2}),
            (journals, "is_cheaper", {"zone": ZONE, "journal": JOURNAL, "old": 2}),
            (zonereads, "read_zone", {"text": TEXT}), (zonereads, "read_names", {"text": TEXT}),
            (messages, "is_message", {"value": FULL}), (messages, "question", {"number": 7, "name": WWW, "kind": "addr", "is_deep": True}),
            (messages, "replied", {"zone": zone, "message": FULL}), (messages, "records_of", {"message": FULL}),
            (messages, "replied", {"zone": zone, "message": FULL[:3] + (FULL[3][:1],) + FULL[4:]}),
            (messages, "told_of", {"message": FULL, "name": WWW, "kind": "text"}), (wires, "cut_to", {"message": FULL, "size": 90}),
            (wires, "cut_to", {"message": FULL, "size": 900}), (wirereads, "same_message", {"one": code, "other": list(code)})])
        rows.extend([(zonetexts, word, {"zone": zone}) for word in ["show_zone", "shortest_text", "shortest_size"]])
        rows.extend([(wires, word, {"message": FULL}) for word in ["plain_bytes", "packed", "packed_size", "spared"]])
        rows.extend([(wirereads, word, {"code": code}) for word in ["unpacked", "is_packed", "is_shortest"]])
        return [(getattr(place, word), arguments, []) for place, word, arguments in rows]

    def test_calls_by_which_much_comes_back(self):
        self.assertIsNotNone(allchanges.apart(ONE, OTHER))
        self.assertIsNotNone(allchanges.order_apart(ONE, OTHER))
        self.assertNotEqual(FULL, wires.cut_to(FULL, 90))

    def test_objects_stay_as_they_were(self):
        ahead = seen(ZONE)
        for value in [journals.difference(ZONE, LATER), journals.turned_back(DIFFERENCE), journals.put_together(JOURNAL)]:
            spoil(value)
        journals.brought(ZONE, DIFFERENCE)
        journals.caught_up(ZONE, JOURNAL, 2)
        self.assertEqual(ahead, seen(ZONE))

    def test_what_comes_back_may_be_passed_on(self):
        self.assertEqual(allchanges.lean(ONE), allchanges.lean(allchanges.lean(ONE)))
        back = journals.put_together([journals.turned_back(one) for one in JOURNAL])
        self.assertTrue(journals.is_difference(back))
        self.assertTrue(messages.is_message(messages.replied(shop_zone(), wirereads.unpacked(wires.packed(FULL)))))
        self.assertEqual(ZONE, zonereads.read_zone(zonetexts.shortest_text(zonereads.read_zone(zonetexts.show_zone(ZONE)))))


class RefusedTest(unittest.TestCase):
    VALUES = [[["x"], (["y"], "z")], (["x"], [["x"]], [[]]), nested(list, 100), nested(tuple, 100), [[], ()], ("a", ["b", ["c"]])]

    def test_values_are_built_anew(self):
        for value in self.VALUES:
            change, other = (ONE[0], ONE[1] + [value]), ([value], [])
            for call in [lambda: allchanges.apart(change, ONE), lambda: allchanges.order_apart(ONE, change), lambda: allchanges.when(change),
                         lambda: allchanges.behind(ONE, other), lambda: allchanges.idle(other), lambda: allchanges.lean(other),
                         lambda: allchanges.judge_apart(other, ONE, []), lambda: allchanges.judge_order(ONE, other, [])]:
                check_refused(self, InvalidDeed, value, call)
            for call in [lambda: journals.brought(ZONE, value), lambda: journals.turned_back(value), lambda: journals.put_together([value]),
                         lambda: journals.chain([value], 1, 2), lambda: journals.weight([value], []), lambda: journals.caught_up(ZONE, [value], 1)]:
                check_refused(self, InvalidDeed, value, call)
            for call in [lambda: journals.chain([], value, 1), lambda: journals.caught_up(ZONE, [], value), lambda: journals.is_cheaper(ZONE, [], value)]:
                check_refused(self, InvalidSerial, value, call)
            for call in [lambda: messages.replied(ZONE, value), lambda: messages.records_of(value), lambda: messages.told_of(value, A, "addr"),
                         lambda: wires.packed(value), lambda: wires.cut_to(value, 5)]:
                check_refused(self, InvalidMessage, value, call)
            check_refused(self, InvalidName, value, lambda: messages.told_of(FULL, value, "addr"))
            check_refused(self, InvalidKind, value, lambda: messages.question(5, A, value, True))
            check_refused(self, InvalidNumber, value, lambda: messages.question(value, A, "addr", True))

    def test_large_parts(self):
        wrong = FULL[:4] + (FULL[4] + [["x"]],) + FULL[5:]
        check_refused(self, InvalidMessage, wrong, lambda: wires.plain_bytes(wrong))
        wrong = DIFFERENCE[:3] + ([["x"]],)
        check_refused(self, InvalidDeed, wrong, lambda: journals.chain(JOURNAL + [wrong], 1, 2))

    def test_numbers_alone(self):
        with self.assertRaises(Unreadable) as caught:
            wirereads.unpacked([["x"]])
        self.assertEqual(0, caught.exception.value)
