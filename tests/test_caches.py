"""Caches: entries, lives, ranks, what is told, undo."""

import random
import unittest

from rootward.caches import Cache, clash, life
from rootward.errors import InvalidEntry, InvalidKind, InvalidMoment, InvalidName, InvalidNumber, InvalidPolicy, Nothing
from tests.manners import check_refused
from tests.plaincaches import QUESTIONS, PlainCache, do_clash, lasting, questions_of, random_policy
from tests.samples import NOTHING_AT_ALL, Stranger, nested

NET, A, BA, B = ("net",), ("a",), ("b", "a"), ("b",)
NO_POLICIES = [one for one in NOTHING_AT_ALL if one != (1, 2)] + [
    (1, 0), (0, 0), (6, 5), (2, 1), (-1, 5), (0, 5, 6), [0, 5], (True, 5), (0, True), ("0", 5), (5, None), (None, 5), {0: 5}]
NO_MOMENTS = [one for one in NOTHING_AT_ALL if one != 2 ** 32]
NO_NUMBERS = NO_MOMENTS

ENTRIES = [
    ("found", A, "addr", 3, (1,)), ("found", A, "addr", 4, (1,)), ("found", A, "addr", 2, (1, 2)), ("found", A, "text", 3, ("x",)),
    ("found", A, "alias", 2, (B,)), ("found", BA, "addr", 5, (1,)), ("alias", A, 3, B), ("alias", A, 2, BA), ("alias", BA, 4, ()),
    ("empty", A, "addr", 3), ("empty", A, "alias", 2), ("empty", BA, "text", 3), ("absent", A, 2), ("absent", BA, 5), ("absent", (), 3), ("absent", B, 0),
    ("found", (), "start", 1, ((B, 1, 2, 3, 4, 5),)), ("empty", (), "mail", 9), ("alias", (), 1, A), ("found", BA, "tree", 2, (A,))]


class EntriesTest(unittest.TestCase):
    def test_each_against_each(self):
        for one in ENTRIES:
            for other in ENTRIES:
                self.assertEqual(do_clash(one, other), clash(one, other), (one, other))
                self.assertEqual(clash(one, other), clash(other, one))
                cache = Cache((9, 9))
                cache.put(0, one, 5)
                # Equal ranks let each other go, lesser ones stay out.
                goes = do_clash(one, other) or questions_of(one) == questions_of(other)
                lower = cache.twin()
                self.assertEqual(other[-1] != 0 and (not goes or one[-1] == 0), lower.put(1, other, 4))
                self.assertEqual(other[-1] != 0, cache.put(1, other, 5))

    def test_kinds_by_hand(self):
        found = ("found", A, "addr", 3, (1,))
        rows = [(("alias", A, 3, B), True), (("empty", A, "addr", 9), True), (("empty", A, "text", 9), False), (("absent", A, 9), True), (("absent", (), 9), True),
                (("absent", BA, 9), False), (("found", A, "addr", 9, (1,)), False), (("found", A, "addr", 3, (2,)), True), (("alias", BA, 3, B), False)]
        for other, wanted in rows:
            self.assertEqual(wanted, clash(found, other))
        self.assertFalse(clash(("found", A, "alias", 3, (B,)), ("alias", A, 3, BA)))
        self.assertFalse(clash(("empty", A, "alias", 3), ("alias", A, 3, BA)))
        self.assertTrue(clash(("alias", A, 3, BA), ("alias", A, 3, B)))
        self.assertFalse(clash(("absent", A, 3), ("absent", BA, 4)))

    def test_what_is_none(self):
        good = {"found": ("found", A, "addr", 3, (1, 2)), "alias": ("alias", A, 3, B), "empty": ("empty", A, "addr", 3), "absent": ("absent", A, 3)}
        wrong = list(NOTHING_AT_ALL) + [(), ("found", A, "addr", 3, ()), ("found", A, "addr", 3, (2, 1)), ("found", A, "addr", 3, (1, 1)), ("found", A, "addr", 3, [1]),
                                        ("tree", A, 3, B), ("cut", A, 3), ("absent", A, 3, 4), ("empty", A, 3, "addr"), ("found", A, "addr", (1,), 3), ("found", A, "text", 3, (1,))]
        for entry in good.values():
            wrong.extend([list(entry), entry + (1,), entry[:-1], entry[1:]])
            for at in range(len(entry)):
                for value in NOTHING_AT_ALL + [True, ("*",), ("*", "a"), "a", [B]]:
                    if (entry[0], at) in [("found", 3), ("empty", 3), ("alias", 2), ("absent", 2)] and value == 2 ** 32 and value is not True:
                        continue
                    if (entry[0], at) == ("found", 4) and value in [(1,), (1, 2), (1, 2, 3, 4)]:
                        continue
                    wrong.append(entry[:at] + (value,) + entry[at + 1:])
        for value in wrong:
            cache = Cache((0, 9))
            check_refused(self, InvalidEntry, value, lambda: cache.put(5, value, True))
            self.assertEqual(([], 0), (cache.living(0), cache.drop(())))
            check_refused(self, InvalidEntry, value, lambda: clash(value, good["found"]))
            check_refused(self, InvalidEntry, value, lambda: clash(good["found"], value))
        self.assertTrue(all([Cache((0, 9)).put(0, entry, 0) for entry in good.values()]))
        # Ages go on behind those of records.
        self.assertTrue(Cache((0, 9)).put(0, ("absent", A, 10 ** 40), 0))
        with self.assertRaises(InvalidEntry) as caught:
            clash(1, 2)
        self.assertEqual(1, caught.exception.value)


class LifeTest(unittest.TestCase):
    def test_lives(self):
        rows = [((0, 3600), 86400, 3600), ((30, 3600), 5, 30), ((30, 3600), 0, 0), ((0, 1), 1, 1), ((0, 1), 2, 1), ((7, 7), 1, 7), ((7, 7), 9, 7), ((3, 9), 3, 3), ((3, 9), 4, 4),
                ((3, 9), 9, 9), ((3, 9), 10, 9), ((0, 10 ** 9), 2 ** 31 - 1, 10 ** 9), ((10 ** 9, 10 ** 9), 1, 10 ** 9), ((0, 5), 0, 0), ((5, 5), 0, 0)]
        for policy, age, wanted in rows:
            self.assertEqual(wanted, life(policy, age))
        for value in NO_POLICIES:
            check_refused(self, InvalidPolicy, value, lambda: life(value, None))
            check_refused(self, InvalidPolicy, value, lambda: Cache(value))
        for value in NO_NUMBERS:
            check_refused(self, InvalidNumber, value, lambda: life((0, 1), value))

    def test_first_and_last_moment(self):
        for policy in [(0, 9), (4, 9), (0, 2), (3, 3)]:
            for age in range(6):
                cache = Cache(policy)
                self.assertEqual(policy, cache.policy)
                lives = lasting(policy, age)
                self.assertEqual(lives > 0, cache.put(10, ("absent", A, age), 0))
                self.assertEqual(None if lives == 0 else ("absent", lives), cache.look(10, BA, "addr"))
                if lives > 0:
                    self.assertEqual(("absent", 1), cache.look(10 + lives - 1, A, "text"))
                    self.assertEqual([(("absent", A, age), 0, 10 + lives)], cache.living(10 + lives - 1))
                self.assertIsNone(cache.look(10 + lives, A, "text"))
                self.assertEqual([], cache.living(10 + lives))


class CacheTest(unittest.TestCase):
    def test_example_by_hand(self):
        cache = Cache((0, 3600))
        self.assertTrue(cache.put(10, ("absent", ("x", "net"), 20), 1))
        self.assertEqual([("absent", 1), None], [cache.look(29, ("y", "x", "net"), "addr"), cache.look(30, ("x", "net"), "addr")])
        cache = Cache((0, 100))
        self.assertTrue(cache.put(0, ("absent", NET, 5), 0))
        self.assertTrue(cache.put(1, ("absent", ("x", "net"), 50), 0))
        # Of several that answer the greatest left is told.
        self.assertEqual([("absent", 50), ("absent", 4), None], [cache.look(1, ("x", "net"), "addr"), cache.look(1, NET, "addr"), cache.look(5, NET, "addr")])
        self.assertEqual(("absent", 46), cache.look(5, ("x", "net"), "addr"))

    def test_ranks(self):
        for first, then, comes in [(5, 4, False), (5, 5, True), (5, 6, True), (0, 0, True), (9, 0, False), (0, 9, True)]:
            cache = Cache((0, 100))
            self.assertTrue(cache.put(0, ("found", A, "addr", 10, (1,)), first))
            for entry in [("alias", A, 20, B), ("found", A, "addr", 20, (1,)), ("absent", A, 20), ("empty", A, "addr", 20)]:
                other = cache.twin()
                self.assertEqual(comes, other.put(5, entry, then))
                self.assertEqual([(entry, then, 25)] if comes else [(("found", A, "addr", 10, (1,)), first, 10)], other.living(5))
                # What no longer lives stands in nobody's way.
                late = cache.twin()
                self.assertTrue(late.put(10, entry, then))
            self.assertTrue(cache.put(5, ("found", A, "text", 10, ("x",)), then))
            self.assertEqual(2, len(cache.living(5)))

    def test_several_go_or_one_stays(self):
        cache = Cache((0, 100))
        for at, entry in enumerate([("found", A, "addr", 50, (1,)), ("found", A, "text", 50, ("x",)), ("found", BA, "addr", 50, (1,)), ("found", A, "alias", 50, (B,))]):
            self.assertTrue(cache.put(at, entry, at))
        barred, lower = cache.twin(), cache.twin()
        self.assertFalse(barred.put(9, ("absent", A, 9), 2))
        self.assertEqual(4, len(barred.living(9)))
        self.assertTrue(lower.put(9, ("alias", A, 9, B), 1))
        self.assertEqual([("alias", A, 9, B), ("found", A, "alias", 50, (B,)), ("found", BA, "addr", 50, (1,))], [row[0] for row in lower.living(9)])
        self.assertTrue(cache.put(9, ("absent", A, 9), 3))
        self.assertEqual([(("absent", A, 9), 3, 18)], cache.living(9))
        cache.undo()
        self.assertEqual(4, len(cache.living(9)))

    def test_order_of_the_living(self):
        cache = Cache((0, 100))
        rows = [("found", BA, "text", 9, ("x",)), ("empty", BA, "addr", 9), ("empty", A, "alias", 9), ("alias", A, 9, B), ("found", (), "addr", 9, (1,)), ("absent", B, 9),
                ("empty", ("z", "a", "a"), "mail", 9), ("absent", ("a", "b"), 9), ("empty", ("z", "c"), "addr", 9)]
        for entry in rows:
            self.assertTrue(cache.put(0, entry, 0))
        wanted = [rows[4], rows[3], rows[2], rows[6], rows[1], rows[0], rows[5], rows[7], rows[8]]
        self.assertEqual([(entry, 0, 9) for entry in wanted], cache.living(0))

    def test_clock(self):
        cache = Cache((0, 100))
        cache.put(10, ("absent", A, 50), 0)
        for value in [9, 0]:
            for call in [lambda: cache.put(value, 5, 0), lambda: cache.look(value, 5, 5), lambda: cache.living(value)]:
                check_refused(self, InvalidMoment, value, call)
        for call, error in [(lambda: cache.put(40, 5, 0), InvalidEntry), (lambda: cache.put(40, ("absent", A, 5), 10), InvalidNumber), (lambda: cache.look(40, 5, 5), InvalidName),
                            (lambda: cache.look(40, A, 5), InvalidKind)]:
            with self.assertRaises(error):
                call()
        # Errors leave the clock where it was.
        self.assertEqual(("absent", 50), cache.look(10, A, "addr"))
        self.assertFalse(cache.put(20, ("absent", A, 0), 0))
        with self.assertRaises(InvalidMoment):
            cache.look(19, A, "addr")
        self.assertEqual(40, cache.look(20, A, "addr")[1])
        cache.living(30)
        with self.assertRaises(InvalidMoment):
            cache.living(29)

    def test_wrong_arguments(self):
        cache = Cache((0, 100))
        for value in NO_MOMENTS:
            for call in [lambda: cache.put(value, 5, 99), lambda: cache.look(value, 5, 5), lambda: cache.living(value)]:
                check_refused(self, InvalidMoment, value, call)
        for value in NOTHING_AT_ALL + [10, -1, True, "1", ("*",), ("*", "a"), "a", ["a"]]:
            if value != 10 and value is not True and value != -1 and value != "1":
                check_refused(self, InvalidName, value, lambda: cache.look(0, value, 5))
                check_refused(self, InvalidName, value, lambda: cache.drop(value))
                check_refused(self, InvalidKind, value, lambda: cache.look(0, A, value))
            check_refused(self, InvalidNumber, value, lambda: cache.put(0, ("absent", A, 5), value))
        for rank in range(10):
            self.assertTrue(cache.put(0, ("absent", A, 5), rank))
        with self.assertRaises(AttributeError):
            cache.policy = (0, 5)

    def test_undo(self):
        cache = Cache((0, 100))
        with self.assertRaises(Nothing) as caught:
            cache.undo()
        self.assertIsNone(caught.exception.value)
        self.assertEqual(0, cache.drop(A))
        self.assertTrue(cache.put(0, ("found", A, "addr", 50, (1,)), 5))
        self.assertFalse(cache.put(1, ("absent", A, 50), 4))
        self.assertFalse(cache.put(1, ("absent", B, 0), 4))
        self.assertEqual(0, cache.drop(B))
        self.assertTrue(cache.put(2, ("absent", (), 50), 5))
        self.assertEqual(0, cache.drop(A))
        self.assertEqual(1, cache.drop(()))
        self.assertEqual([], cache.living(2))
        self.assertIsNone(cache.undo())
        self.assertEqual([("absent", (), 50)], [row[0] for row in cache.living(3)])
        cache.undo()
        self.assertEqual([(("found", A, "addr", 50, (1,)), 5, 50)], cache.living(49))
        with self.assertRaises(InvalidMoment):
            cache.living(48)
        cache.undo()
        self.assertEqual([], cache.living(49))
        with self.assertRaises(Nothing):
            cache.undo()
        # What comes back after its end lives no longer.
        self.assertTrue(cache.put(50, ("absent", A, 5), 0))
        self.assertTrue(cache.put(51, ("alias", A, 50, B), 0))
        self.assertEqual(1, len(cache.living(60)))
        cache.undo()
        self.assertEqual([], cache.living(60))
        cache.undo()
        with self.assertRaises(Nothing):
            cache.undo()

    def test_undo_of_the_same_once_more(self):
        cache = Cache((0, 100))
        for _ in range(3):
            self.assertTrue(cache.put(5, ("absent", A, 5), 3))
        for _ in range(2):
            cache.undo()
            self.assertEqual([(("absent", A, 5), 3, 10)], cache.living(5))
        cache.undo()
        self.assertEqual([], cache.living(5))

    def test_equality(self):
        one, other = Cache((0, 100)), Cache((0, 100))
        self.assertEqual(one, other)
        self.assertNotEqual(one, Cache((1, 100)))
        self.assertNotEqual(one, Cache((0, 101)))
        self.assertNotEqual(one, None)
        self.assertNotEqual(one, Stranger())
        self.assertNotEqual(one, [])
        one.living(5)
        self.assertNotEqual(one, other)
        one.put(5, ("absent", A, 5), 0)
        other.put(4, ("absent", A, 6), 0)
        self.assertNotEqual(one, other)
        other.living(5)
        self.assertNotEqual(one, other)
        one.drop(()), other.drop(())
        # The past does not count.
        self.assertEqual(one, other)
        one.put(5, ("absent", A, 5), 0)
        other.put(5, ("absent", A, 5), 1)
        self.assertNotEqual(one, other)
        other.put(5, ("absent", A, 5), 2)
        one.living(10)
        self.assertNotEqual(one, other)
        other.living(10)
        self.assertEqual(one, other)

    def test_by_chance(self):
        for seed in range(120):
            chance = random.Random(seed)
            policy = random_policy(chance, 9)
            cache, plain = Cache(policy), PlainCache(policy)
            twins = []
            for _ in range(40):
                moment = plain.now + chance.choice([0, 0, 1, 1, 2, 5])
                what = chance.randrange(10)
                if what < 5:
                    entry, rank = chance.choice(ENTRIES), chance.randrange(3)
                    self.assertEqual(plain.put(moment, entry, rank), cache.put(moment, entry, rank))
                elif what == 5:
                    name = chance.choice([(), A, BA, B])
                    self.assertEqual(plain.drop(name), cache.drop(name))
                elif what == 6 and plain.past:
                    plain.undo()
                    self.assertIsNone(cache.undo())
                elif what == 7:
                    twins.append((cache.twin(), plain.now, plain.living(plain.now), len(plain.past)))
                self.assertEqual(plain.living(moment), cache.living(moment))
                for name, kind in QUESTIONS:
                    self.assertEqual(plain.look(moment, name, kind), cache.look(moment, name, kind))
                for one in cache.living(moment):
                    self.assertFalse(any([clash(one[0], other[0]) for other in cache.living(moment)]))
            for twin, moment, living, past in twins:
                # What came and went in the cache since then is not the twin's.
                self.assertEqual(living, twin.living(moment))
                for _ in range(past):
                    twin.undo()
                with self.assertRaises(Nothing):
                    twin.undo()

    def test_a_twin_has_the_clock(self):
        cache = Cache((0, 9))
        cache.living(5)
        self.assertEqual(cache, cache.twin())
        with self.assertRaises(InvalidMoment):
            cache.twin().living(4)

    def test_nothing_deep_is_kept(self):
        value = nested(list, 90)
        cache = Cache((0, 9))
        check_refused(self, InvalidName, value, lambda: cache.drop(value))

