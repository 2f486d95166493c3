"""Loads in pieces."""

import random
import unittest
from itertools import permutations

from rootward.errors import InvalidNumber, InvalidPiece, InvalidRecord, InvalidZone, Nothing, OutOfZone, UnlikeAges, Unfit
from rootward.transfers import Gathered, pieces, zone_behind
from tests.manners import check_refused
from tests.samples import NOTHING_AT_ALL, Stranger, shop_zone, start_at
from tests.test_caches import NO_MOMENTS

RECORDS = [(("a", "net"), "addr", 5, 1), (("a", "net"), "addr", 5, 2), (("*", "net"), "text", 5, "x"), (("b", "net"), "mail", 6, (1, ("m",))), (("a", "net"), "addr", 5, 1)]


class PiecesTest(unittest.TestCase):
    def test_all_sizes(self):
        for many in range(6):
            load = RECORDS[:many]
            for size in range(1, 8):
                found = pieces(load, size)
                self.assertEqual(max(1, -(-many // size)), len(found))
                self.assertEqual(load, [record for _, _, records in found for record in records])
                self.assertEqual([(index, len(found)) for index in range(len(found))], [row[:2] for row in found])
                self.assertTrue(all([len(records) == size for _, _, records in found[:-1]]))
                self.assertTrue(many == 0 or 1 <= len(found[-1][2]) <= size)
                self.assertTrue(all([isinstance(row, tuple) and isinstance(row[2], tuple) for row in found]))
        self.assertEqual([(0, 1, ())], pieces([], 3))
        self.assertEqual([(0, 1, tuple(RECORDS))], pieces(RECORDS, 10 ** 59))
        self.assertEqual(60, len(pieces(shop_zone().records()[:1] * 60, 1)))

    def test_wrong(self):
        for value in NOTHING_AT_ALL:
            check_refused(self, InvalidRecord, value, lambda: pieces([RECORDS[0], value, None], None))
            if not isinstance(value, list):
                check_refused(self, InvalidRecord, value, lambda: pieces(value, 1))
        for value in NO_MOMENTS + [0, -1, True, None, "1"]:
            check_refused(self, InvalidNumber, value, lambda: pieces(RECORDS, value))
            check_refused(self, InvalidNumber, value, lambda: pieces([], value))


class GatheredTest(unittest.TestCase):
    def test_all_sequences(self):
        for many, size in [(0, 2), (1, 2), (3, 1), (4, 2), (5, 2)]:
            load = RECORDS[:many]
            parts = pieces(load, size)
            for order in permutations(parts):
                gathered = Gathered()
                self.assertEqual([None, None, 0], [gathered.lacking(), gathered.load(), len(gathered)])
                for at, piece in enumerate(order):
                    self.assertIsNone(gathered.load())
                    self.assertTrue(gathered.take(piece))
                    for again in order[:at + 1]:
                        self.assertFalse(gathered.take(again))
                    self.assertEqual(sorted([row[0] for row in order[at + 1:]]), gathered.lacking())
                    self.assertEqual(at + 1, len(gathered))
                # Fact F1.
                self.assertEqual(load, gathered.load())
                for at in range(len(parts) - 1, -1, -1):
                    self.assertIsNone(gathered.undo())
                    self.assertIsNone(gathered.load())
                    self.assertEqual(at, len(gathered))
                    self.assertEqual(sorted([row[0] for row in order[at:]]) if at > 0 else None, gathered.lacking())
                with self.assertRaises(Nothing) as caught:
                    gathered.undo()
                self.assertIsNone(caught.exception.value)
                # What was forgotten may be another load.
                self.assertTrue(gathered.take((5, 7, (RECORDS[0],))))

    def test_undo_forgets_what_came_new_last(self):
        parts = pieces(RECORDS, 2)
        gathered = Gathered()
        gathered.take(parts[2]), gathered.take(parts[0]), gathered.take(parts[2])
        gathered.undo()
        self.assertEqual([0, 1], gathered.lacking())
        self.assertTrue(gathered.take(parts[0]))

    def test_unfit(self):
        parts = pieces(RECORDS, 2)
        for wrong in [(0, 4, parts[0][2]), (1, 4, parts[1][2]), (0, 3, parts[1][2]), (0, 3, parts[0][2][:1]), (0, 3, parts[0][2][::-1]), (0, 1, ())]:
            gathered = Gathered()
            gathered.take(parts[0])
            check_refused(self, Unfit, wrong, lambda: gathered.take(wrong))
            self.assertEqual([[1, 2], 1], [gathered.lacking(), len(gathered)])
            self.assertTrue(gathered.take(parts[1]))
            self.assertFalse(gathered.take(parts[0]))

    def test_what_is_no_piece(self):
        good = (0, 2, (RECORDS[0],))
        wrong = list(NOTHING_AT_ALL) + [list(good), good + (1,), good[:2], (2, 2, good[2]), (-1, 2, good[2]), (0, 0, ()), (0, 2, ()), (1, 2, ()), (0, 2, [RECORDS[0]]), (0, 2, (RECORDS[0], None)),
                                        (False, 2, good[2]), (0, True, good[2]), (0, 2, RECORDS[0]), (0, -1, ()), ("0", 2, good[2])]
        for at in range(3):
            for value in NOTHING_AT_ALL:
                if (at, value) != (1, 2 ** 32):
                    wrong.append(good[:at] + (value,) + good[at + 1:])
        wrong.extend([(0, 2, (RECORDS[0], value)) for value in NOTHING_AT_ALL])
        for value in wrong:
            gathered = Gathered()
            check_refused(self, InvalidPiece, value, lambda: gathered.take(value))
            self.assertEqual([None, 0], [gathered.lacking(), len(gathered)])

    def test_equality(self):
        parts = pieces(RECORDS, 2)
        one, other = Gathered(), Gathered()
        self.assertEqual(one, other)
        self.assertNotEqual(one, None)
        self.assertNotEqual(one, Stranger())
        self.assertNotEqual(one, 0)
        one.take(parts[0]), one.take(parts[2]), other.take(parts[2])
        self.assertNotEqual(one, other)
        other.take(parts[0])
        self.assertEqual(one, other)
        one.undo(), one.undo(), other.undo(), other.undo()
        self.assertEqual(one, other)
        one.take((0, 2, (RECORDS[0],))), other.take((0, 3, (RECORDS[0],)))
        self.assertNotEqual(one, other)

    def test_by_chance(self):
        for seed in range(60):
            chance = random.Random(seed)
            parts = pieces(RECORDS[:chance.randrange(6)], chance.randrange(1, 3))
            gathered, come = Gathered(), []
            for _ in range(15):
                if chance.random() < 0.25 and come:
                    gathered.undo()
                    come.pop()
                else:
                    piece = chance.choice(parts)
                    self.assertEqual(piece not in come, gathered.take(piece))
                    come.extend([piece] if piece not in come else [])
                self.assertEqual(len(come), len(gathered))
                self.assertEqual(len(come) == len(parts), gathered.load() is not None)


class ZonesTest(unittest.TestCase):
    def test_zone_behind(self):
        zone = shop_zone()
        behind = zone.without([(("www", "net"), "text", 30, "hi")])
        self.assertEqual(behind, zone_behind(zone, behind.records()))
        self.assertEqual(behind, zone_behind(zone, behind.records() + behind.records()[:2]))
        self.assertEqual(zone, zone_behind(behind, zone.records()[::-1]))

    def test_errors_of_zone(self):
        zone = shop_zone()
        for value in NOTHING_AT_ALL:
            with self.assertRaises(InvalidRecord) as caught:
                zone_behind(zone, zone.records() + [value])
            self.assertEqual(value, caught.exception.value)
        rows = [([(("www", "net"), "addr", 5, 7)], UnlikeAges, (("www", "net"), "addr")), ([(("a",), "addr", 5, 7)], OutOfZone, ("a",)),
                ([start_at(("net",), serial=9)], InvalidZone, [(("net",), "start")])]
        for more, error, value in rows:
            with self.assertRaises(error) as caught:
                zone_behind(zone, zone.records() + more)
            self.assertEqual(value, caught.exception.value)
        with self.assertRaises(InvalidZone) as caught:
            zone_behind(zone, [])
        self.assertEqual([(("net",), "no server"), (("net",), "no start")], caught.exception.value)
