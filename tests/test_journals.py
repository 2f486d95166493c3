"""Differences and journals."""

import random
import unittest
from itertools import permutations

from rootward.errors import InvalidDeed, InvalidNumber, InvalidSerial, InvalidZone, OutOfZone, Unfit, UnlikeAges, Unreachable
from rootward.journals import (
    brought, caught_up, chain, difference, is_cheaper, is_difference, put_together, turned_back, weight)
from rootward.zones import Zone
from tests.samples import NOTHING_AT_ALL, nested, random_zone, start_at, zone_with

A, B, NET = ("a",), ("b",), ("net",)
R1, R2, R3, R4 = (A, "addr", 5, 1), (A, "addr", 5, 2), (B, "addr", 5, 1), (B, "text", 5, "x")
ONE = zone_with((), [R1, R2])
TWO = zone_with((), [R2, R3], serial=2)
THREE = zone_with((), [R3, R4], serial=3)


def starts(old, new):
    return [start_at((), serial=old)], [start_at((), serial=new)]


def plain(old, new, taken=(), added=()):
    """A difference with the start records of two serials."""
    return (old, new, starts(old, new)[0] + list(taken), starts(old, new)[1] + list(added))


def bare(old, new, many):
    """A difference with so many records."""
    return (old, new, [], [((f"n{index}",), "addr", 5, index) for index in range(many)])


class DifferenceTest(unittest.TestCase):
    def raises(self, error, value, call, *arguments):
        with self.assertRaises(error) as caught:
            call(*arguments)
        self.assertEqual(value, caught.exception.value)
        return caught.exception.value

    def test_is_difference(self):
        good = (1, 2, [R1, R2], [R3, R4])
        self.assertTrue(is_difference(good))
        for value in [(0, 0, [], []), (2 ** 32 - 1, 0, [], [R1]), (5, 5, [R1], []), (1, 2, [R1], [(A, "addr", 6, 1)]),
                      (1, 2, [(A, "addr", 5, 1), (A, "addr", 6, 1)], []), plain(1, 2), (1, 2, [(("*",), "addr", 5, 1)], [])]:
            self.assertTrue(is_difference(value), value)
        for value in [
                (1, 2, [R2, R1], []), (1, 2, [], [R4, R3]), (1, 2, [R1, R1], []), (1, 2, [R1], [R1]), (1, 2, [R1, R2], [R2, R3]),
                (-1, 2, [], []), (1, 2 ** 32, [], []), (True, 2, [], []), (1, False, [], []), ("1", 2, [], []), (None, 2, [], []),
                (1, 2, (R1,), []), (1, 2, [], (R1,)), (1, 2, [list(R1)], []), (1, 2, [R1[:3]], []), (1, 2, [(A, "addr", True, 1)], []),
                (1, 2, [(A, "addr", 5, True)], []), (1, 2, None, []), (1, 2, [], {}), (1, 2, []), (1, 2, [], [], []), [1, 2, [], []],
                (1, 2, [(("A",), "addr", 5, 1)], []), (1, 2, [R3, R2], []), (1, 2, [(A, "text", 5, "x"), (A, "addr", 5, 1)], [])]:
            self.assertFalse(is_difference(value), value)
        for value in NOTHING_AT_ALL + [nested(list, 99)]:
            self.assertFalse(is_difference(value))
            for place in range(4):
                is_right = place > 1 and value == []
                self.assertEqual(is_right, is_difference(good[:place] + (value,) + good[place + 1:]), value)
            self.assertFalse(is_difference((1, 2, [value], [])))
            self.assertFalse(is_difference((1, 2, [], [R1, value])))

    def test_difference(self):
        self.assertEqual((1, 2, [start_at((), serial=1), R1], [start_at((), serial=2), R3]), difference(ONE, TWO))
        self.assertEqual((1, 1, [], []), difference(ONE, ONE))
        self.raises(OutOfZone, NET, difference, ONE, zone_with(NET, []))
        self.raises(OutOfZone, (), difference, zone_with(NET, []), ONE)
        older = zone_with((), [(A, "addr", 6, 1)], serial=2)
        self.assertEqual((1, 2, [start_at((), serial=1), R1, R2], [start_at((), serial=2), (A, "addr", 6, 1)]), difference(ONE, older))

    def test_there_and_back(self):
        for seed in range(0, 60, 2):
            zones = [random_zone(other) for other in range(seed, seed + 12)]
            one = zones[0]
            other = [zone for zone in zones[1:] if zone.apex == one.apex][0]
            told = difference(one, other)
            self.assertTrue(is_difference(told))
            self.assertEqual(other, brought(one, told))
            self.assertEqual(one, brought(other, turned_back(told)))
            self.assertEqual(difference(other, one), turned_back(told))
            self.assertEqual(told, turned_back(turned_back(told)))

    def test_errors_of_brought(self):
        start, new = starts(1, 2)
        self.raises(InvalidDeed, (1, 2, [R2, R1], []), brought, ONE, (1, 2, [R2, R1], []))
        self.raises(InvalidSerial, 2, brought, ONE, plain(2, 3, [R4], [R1]))
        self.raises(Unfit, R4, brought, ONE, plain(1, 2, [R1, R4], [R2]))
        self.raises(Unfit, R3, brought, ONE, plain(1, 2, [R1, R3, R4], [R2]))
        self.raises(Unfit, R2, brought, ONE, plain(1, 2, [R1], [R2, R3]))
        self.raises(UnlikeAges, (A, "addr"), brought, ONE, plain(1, 2, [R1], [(A, "addr", 6, 1)]))
        self.raises(OutOfZone, (), brought, zone_with(NET, []), (1, 2, [], [((), "addr", 5, 1)]))
        self.raises(InvalidZone, [((), "no start")], brought, ONE, (1, 2, start + [R1], []))
        self.raises(InvalidZone, [((), "start")], brought, ONE, (1, 2, [], new))
        self.raises(InvalidSerial, 5, brought, ONE, (1, 5, [R1], []))
        self.raises(InvalidSerial, 5, brought, ONE, (1, 5, start, new))
        self.assertEqual(zone_with((), [R2]), brought(ONE, (1, 1, [R1], [])))
        self.raises(UnlikeAges, (A, "addr"), brought, ONE, (1, 5, [R1], [(A, "addr", 6, 1)]))

    def test_put_together(self):
        first, second = difference(ONE, TWO), difference(TWO, THREE)
        self.assertEqual(difference(ONE, THREE), put_together([first, second]))
        self.assertEqual(first, put_together([first]))
        self.assertEqual((1, 1, [], []), put_together([first, turned_back(first)]))
        self.assertEqual((1, 2, [], [R1]), put_together([(1, 1, [], [R1]), (1, 2, [R1], []), (2, 2, [], [R1])]))
        self.assertEqual((1, 2, [R1], []), put_together([(1, 1, [R1], []), (1, 3, [], [R1]), (3, 2, [R1], [])]))

    def test_put_together_by_chance(self):
        for seed in range(40):
            chance = random.Random(seed)
            zones = [zone_with((), chance.sample([R1, R2, R3, R4], chance.randrange(5)), serial=serial) for serial in range(5)]
            told = [difference(one, other) for one, other in zip(zones, zones[1:])]
            self.assertEqual(difference(zones[0], zones[-1]), put_together(told))
            for zone, entry in zip(zones, told):
                self.assertEqual(zones[-1], caught_up(zone, told, 4))

    def test_errors_of_put_together(self):
        first, second = (1, 2, [R1], [R2]), (2, 3, [R2], [R1])
        self.raises(InvalidNumber, 0, put_together, [])
        self.raises(InvalidDeed, (2, 3, [R1], [R1]), put_together, [first, (2, 3, [R1], [R1]), (9, 9, [], [])])
        self.raises(InvalidSerial, 9, put_together, [first, (9, 3, [R1], [R2]), (8, 8, [], [])])
        self.raises(InvalidSerial, 8, put_together, [first, (2, 3, [R1], [R2]), (8, 8, [], [])])
        self.raises(Unfit, R1, put_together, [first, (2, 3, [R1], [R2])])
        self.raises(Unfit, R2, put_together, [first, (2, 3, [], [R2])])
        self.raises(Unfit, R2, put_together, [first, (2, 3, [R3], [R2]), (3, 3, [R3], [])])
        # Put in again, it is there, though all together tell nothing of it.
        self.raises(Unfit, R1, put_together, [first, second, (3, 4, [], [R1])])
        self.raises(Unfit, R2, put_together, [first, second, (3, 4, [R2], [R1])])
        self.assertEqual((1, 4, [R1], []), put_together([first, second, (3, 4, [R1], [])]))
        self.raises(Unfit, R3, put_together, [first, (2, 3, [R3], [R4]), (3, 4, [R3, R4], [R4][:0])])

    def test_turned_back(self):
        self.assertEqual((2, 1, [R3], [R1, R2]), turned_back((1, 2, [R1, R2], [R3])))
        self.raises(InvalidDeed, (1, 2, [R1], [R1]), turned_back, (1, 2, [R1], [R1]))
        for value in NOTHING_AT_ALL:
            self.raises(InvalidDeed, value, turned_back, value)
            self.raises(InvalidDeed, value, brought, ONE, value)
            self.raises(InvalidDeed, value, put_together, [(1, 2, [], []), value])
            self.raises(InvalidDeed, value, chain, [(1, 2, [], []), value], 1, 2)
            self.raises(InvalidDeed, value, weight, [(1, 2, [], []), value], [0])
            self.raises(InvalidDeed, value, caught_up, ONE, [(1, 2, [], []), value], 1)
            self.raises(InvalidDeed, value, is_cheaper, ONE, [(1, 2, [], []), value], 1)


def all_chains(journal, old, new):
    """All chains that come to no serial twice."""
    found = [[]] if old == new else []
    for many in range(1, len(journal) + 1):
        for indexes in permutations(range(len(journal)), many):
            ends = [old] + [journal[index][1] for index in indexes]
            if all([journal[index][0] == end for index, end in zip(indexes, ends)]) and ends[-1] == new:
                found.append(list(indexes))
    return found


class ChainTest(unittest.TestCase):
    def raises(self, error, value, call, *arguments):
        with self.assertRaises(error) as caught:
            call(*arguments)
        self.assertEqual(value, caught.exception.value)

    def test_against_all_chains(self):
        for seed in range(250):
            chance = random.Random(seed)
            journal = [bare(chance.randrange(4), chance.randrange(4), chance.choice([0, 0, 1, 1, 2, 3])) for _ in range(chance.randrange(6))]
            for old in range(4):
                new = chance.randrange(4)
                chains = all_chains(journal, old, new)
                best = min(chains, key=lambda indexes: (sum([len(journal[at][3]) for at in indexes]), len(indexes), indexes), default=None)
                self.assertEqual(best, chain(journal, old, new), (journal, old, new))
                if best is not None:
                    self.assertEqual(sum([len(journal[at][3]) for at in best]), weight(journal, best))

    def test_by_hand(self):
        journal = [bare(1, 2, 3), bare(2, 3, 3), bare(1, 3, 7), bare(1, 3, 6), bare(3, 1, 0), bare(1, 1, 0)]
        self.assertEqual([3], chain(journal, 1, 3))
        self.assertEqual([0, 1], chain(journal[:3], 1, 3))
        self.assertEqual([0], chain([bare(1, 2, 1), bare(1, 2, 1)], 1, 2))
        self.assertEqual([1], chain([bare(1, 2, 2), bare(1, 2, 1)], 1, 2))
        self.assertEqual([[], [], None, None], [chain(journal, 1, 1), chain([], 9, 9), chain(journal, 1, 9), chain(journal, 9, 1)])
        self.assertEqual([4, 0], chain(journal, 3, 2))
        self.assertEqual([12, 3, 0], [weight(journal, [0, 3, 0]), weight(journal, [1]), weight(journal, [])])

    def test_forty_differences(self):
        journal = [bare(index, index + 1, index % 3) for index in range(39)] + [bare(39, 0, 1)]
        self.assertEqual(list(range(39)), chain(journal, 0, 39))
        self.assertEqual(list(range(5, 40)) + [0, 1, 2, 3], chain(journal, 5, 4))

    def test_caught_up(self):
        first, second = difference(ONE, TWO), difference(TWO, THREE)
        journal = [second, first, difference(THREE, ONE)]
        self.assertEqual([ONE, TWO, THREE], [caught_up(ONE, journal, serial) for serial in [1, 2, 3]])
        self.assertEqual(ONE, caught_up(TWO, journal, 1))
        self.raises(Unreachable, 9, caught_up, ONE, journal, 9)
        self.raises(Unreachable, 2, caught_up, ONE, [second], 2)
        self.raises(InvalidSerial, True, caught_up, ONE, journal, True)
        self.raises(Unfit, R4, caught_up, ONE, [plain(1, 2), plain(2, 3, [R4])], 3)
        self.raises(InvalidSerial, 3, caught_up, ONE, [plain(1, 2), (2, 3, [R1], [])], 3)
        self.raises(InvalidDeed, 5, caught_up, ONE, [5], True)

    def test_every_chain_comes_to_the_same(self):
        zones = [zone_with((), [R1, R2, R3, R4][:serial], serial=serial) for serial in range(4)]
        journal = [difference(one, other) for one in zones for other in zones if one.serial != other.serial]
        for one in zones:
            for other in zones:
                for indexes in all_chains([entry for entry in journal if 3 not in entry[:2]], one.serial, other.serial):
                    zone = one
                    for index in indexes:
                        zone = brought(zone, [entry for entry in journal if 3 not in entry[:2]][index])
                    self.assertEqual(other, zone)

    def test_is_cheaper(self):
        self.assertEqual(4, len(ONE))
        for many in range(7):
            self.assertEqual(many < 4, is_cheaper(ONE, [bare(9, 1, many)], 9))
            self.assertEqual(many < 2, is_cheaper(ONE, [bare(9, 8, many), bare(8, 1, 2)], 9))
        self.assertTrue(is_cheaper(ONE, [], 1))
        self.assertFalse(is_cheaper(ONE, [], 2))
        self.assertFalse(is_cheaper(ONE, [bare(1, 9, 0)], 9))

    def test_no_serials(self):
        for value in [-1, 2 ** 32, True, None, "1", [1], (1,), 10 ** 59, {}]:
            self.raises(InvalidSerial, value, chain, [], value, 1)
            self.raises(InvalidSerial, value, chain, [], 1, value)
            self.raises(InvalidSerial, value, is_cheaper, ONE, [], value)
            self.raises(InvalidSerial, value, caught_up, ONE, [], value)
        self.raises(InvalidSerial, -1, chain, [], -1, True)
        self.assertIsNone(chain([], 0, 2 ** 32 - 1))


class ManyRecordsTest(unittest.TestCase):
    def test_sixty_records(self):
        records = [((f"n{index}",), "addr", 5, index) for index in range(58)]
        one, other = zone_with((), records[:1]), zone_with((), records, serial=2)
        there = difference(one, other)
        journal = [there, turned_back(there)] * 20
        self.assertEqual([0], chain(journal, 1, 2))
        self.assertEqual(other, caught_up(one, journal, 2))
        self.assertEqual((1, 1, [], []), put_together(journal))
        self.assertEqual(Zone((), other.records()), brought(one, there))
