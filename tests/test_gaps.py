"""Gaps of zones, and what some of them show of names."""

import random
import unittest
from itertools import product

from rootward.answers import answer
from rootward.errors import InvalidGap, InvalidKind, InvalidName, InvalidWord, OutOfZone
from rootward.gaps import clash, gaps, is_gap, judge_showing, showing, shown
from tests import plaingaps, plainly
from tests.samples import KINDS, NAMES, NOTHING_AT_ALL, nested, random_zone, shop_zone, small_names, zone_with

NET = ("net",)
A, B, C = ("a",), ("b",), ("c",)
GOOD = (A, B, ("addr", "text"))
SEEDS = range(25)


def near(zone):
    """Return names within a zone."""
    return [name + zone.apex for name in small_names(["0", "a", "b", "q"], 3)]


class GapsTest(unittest.TestCase):
    def test_by_hand(self):
        zone = shop_zone()
        names = [(), ("*",), ("al",), ("*", "al"), ("deep",), ("a", "deep"), ("lab",), ("moved",), ("old",), ("web",), ("www",)]
        kinds = [("server", "start"), ("addr", "mail"), (), ("alias",), (), ("addr",), ("addr", "server"), ("tree",),
                 ("addr", "tree"), ("alias",), ("addr", "text")]
        names = [name + NET for name in names]
        self.assertEqual(list(zip(names, names[1:] + [NET], kinds)), gaps(zone))

    def test_by_chance(self):
        for seed in range(80):
            zone = random_zone(seed)
            found = gaps(zone)
            self.assertEqual(plaingaps.gaps(zone.apex, zone.records()), found)
            self.assertEqual(zone.names(), [gap[0] for gap in found])
            self.assertTrue(all([is_gap(gap) for gap in found]))
            self.assertIsNone(clash(zone.apex, found))

    def test_apex_alone(self):
        self.assertEqual([((), (), ("server", "start"))], gaps(zone_with((), [])))
        tree = zone_with(NET, [(NET, "tree", 5, ())])
        self.assertEqual([(NET, NET, ("server", "start", "tree"))], gaps(tree))
        self.assertIsNone(shown(NET, gaps(tree), ("a", "net"), "addr"))


class IsGapTest(unittest.TestCase):
    def test_gaps(self):
        for one, other in product(NAMES[::3] + [("*",), ("*", "a")], repeat=2):
            for kinds in [(), ("addr",), ("addr", "tree"), tuple(KINDS)]:
                self.assertTrue(is_gap((one, other, kinds)))

    def test_no_gaps(self):
        for at in range(3):
            for wrong in NOTHING_AT_ALL + [("a", "*"), ["addr"], "addr", ("addr", None)]:
                self.assertFalse(is_gap(GOOD[:at] + (wrong,) + GOOD[at + 1:]), wrong)
        for wrong in [("addr", "addr"), ("tree", "addr"), ("none",), ("addr", "none"), ("addr", "text", "text"), ("addr", ["text"])]:
            self.assertFalse(is_gap(GOOD[:2] + (wrong,)), wrong)
        for value in NOTHING_AT_ALL + [list(GOOD), GOOD[:2], GOOD + ((),), (GOOD,), [GOOD], (A, B, ["addr"]), nested(tuple, 100)]:
            self.assertFalse(is_gap(value))
        self.assertFalse(is_gap(tuple(KINDS) * 300))


class ShownTest(unittest.TestCase):
    def test_all_gaps(self):
        for seed in SEEDS:
            zone = random_zone(seed)
            found = gaps(zone)
            for name in near(zone):
                for kind in ["addr", "text", "server", "tree"]:
                    word = answer(zone, name, kind)[0]
                    self.assertEqual(word if word in ("absent", "empty") else None, shown(zone.apex, found, name, kind))

    def test_some_gaps_and_none(self):
        for seed in SEEDS:
            zone = random_zone(seed)
            chance = random.Random(seed)
            for part in [[], [gap for gap in gaps(zone) if chance.random() < 0.5], gaps(zone)[:1], gaps(zone)[-1:]]:
                for name in near(zone):
                    kind = chance.choice(["addr", "text", "alias"])
                    found = shown(zone.apex, part, name, kind)
                    self.assertEqual(plaingaps.shown(zone.apex, part, name, kind), found)
                    self.assertIn(found, [None, answer(zone, name, kind)[0]])

    def test_any_gaps(self):
        # No zone has these together, but what they show is told, too.
        names = small_names(["a", "b"], 2) + [("*",), ("*", "a")]
        for seed in range(300):
            chance = random.Random(seed)
            listed = []
            for _ in range(chance.randrange(6)):
                kinds = tuple(sorted(chance.sample(["addr", "alias", "server", "tree"], chance.choice([0, 0, 1, 1, 2]))))
                listed.append((chance.choice(names), chance.choice(names), kinds))
            for name in small_names(["a", "b", "c"], 2):
                self.assertEqual(plaingaps.shown((), listed, name, "addr"), shown((), listed, name, "addr"), (listed, name))

    def test_by_hand(self):
        over = (A, C, ())
        for name, listed, word in [
                (B, [over], None), (B, [over, ((), A, ())], "absent"), (B, [over, (("*",), A, ("text",))], "empty"),
                (B, [over, (("*",), A, ("addr",))], None), (B, [over, (("*",), A, ("alias",))], None),
                (("x", "b"), [over, ((), A, ())], "absent"), (("x", "a"), [over], "absent"), (("x", "a"), [(A, C, ("tree",))], None),
                (("x", "a"), [(A, C, ("server",))], None), (A, [over], "empty"), (A, [(A, C, ("addr",))], None),
                (A, [(A, C, ("alias",))], None), (A, [(A, C, ("server",))], None), (A, [(A, C, ("tree",))], "empty"),
                ((), [((), A, ("server", "start"))], "empty"), (C, [over], None), (A, [], None)]:
            self.assertEqual(word, shown((), listed, name, "addr"), (name, listed))

    def test_gaps_of_a_tree_at_the_apex(self):
        zone = zone_with(NET, [(NET, "tree", 5, ()), (NET, "text", 5, "x")])
        for name in [("a", "net"), ("b", "a", "net")]:
            self.assertIsNone(shown(NET, gaps(zone), name, "addr"))
        self.assertEqual(["empty", None], [shown(NET, gaps(zone), NET, kind) for kind in ["addr", "text"]])
        self.assertEqual(gaps(zone), showing(zone, NET, "addr"))


class ShowingTest(unittest.TestCase):
    def test_shortest(self):
        for seed in range(14):
            zone = random_zone(seed)
            found = gaps(zone)[:9]
            if len(gaps(zone)) > 9:
                continue
            for name in near(zone)[::3]:
                for kind in ["addr", "text"]:
                    word = answer(zone, name, kind)[0]
                    listed = showing(zone, name, kind)
                    if word in ("absent", "empty"):
                        self.assertEqual([listed], plaingaps.shortest(zone.apex, found, [name], kind, [word]))
                    else:
                        self.assertIsNone(listed)

    def test_by_hand(self):
        zone = shop_zone()
        by_name = {gap[0][:-1]: gap for gap in gaps(zone)}
        for name, kind, names in [
                ("q", "text", [("*",), ("old",)]), ("q", "addr", None), ("0", "text", [("*",)]), ("www", "mail", [("www",)]), ("www", "addr", None),
                ("x.www", "addr", [("www",)]), ("0.deep", "addr", [("deep",)]), ("b.deep", "addr", [("deep",), ("a", "deep")]),
                ("web", "addr", None), ("q.al", "addr", None), ("lab", "addr", None), ("a.lab", "text", None), ("x.old", "text", None),
                ("old", "text", [("old",)]), ("al", "text", [("al",)]), ("zz", "text", [("*",), ("www",)])]:
            expected = None if names is None else [by_name[other] for other in names]
            self.assertEqual(expected, showing(zone, tuple(name.split(".")) + NET, kind), name)

    def test_judged(self):
        for seed in SEEDS:
            zone = random_zone(seed)
            for name in near(zone)[::2]:
                for kind in ["addr", "text"]:
                    word = answer(zone, name, kind)[0]
                    for other in ["absent", "empty"]:
                        self.assertEqual(word == other, judge_showing(zone.apex, other, name, kind, gaps(zone)))
                        self.assertFalse(judge_showing(zone.apex, other, name, kind, []))
                        if word in ("absent", "empty"):
                            listed = showing(zone, name, kind)
                            self.assertEqual(word == other, judge_showing(zone.apex, other, name, kind, listed))
                            self.assertFalse(judge_showing(zone.apex, other, name, kind, listed[1:]))

    def test_judged_objects(self):
        listed = [((), A, ()), (A, C, ())]
        self.assertTrue(judge_showing((), "absent", B, "addr", listed))
        self.assertTrue(judge_showing((), "absent", B, "addr", listed[::-1] * 30))
        for wrong in NOTHING_AT_ALL + [tuple(listed), {listed[0]: listed[1]}, nested(list, 100), "absent"]:
            self.assertFalse(judge_showing((), "absent", B, "addr", wrong))
            self.assertFalse(judge_showing((), "absent", B, "addr", listed + [wrong]))
        self.assertFalse(judge_showing((), "absent", B, "addr", [list(gap) for gap in listed]))
        self.assertFalse(judge_showing((), "absent", B, "addr", [listed]))
        below = [(name + NET, end + NET, kinds) for name, end, kinds in listed]
        self.assertTrue(judge_showing(NET, "absent", B + NET, "addr", below))
        for gap in [(A, NET, ()), (NET, A, ()), ((), (), ())]:
            self.assertFalse(judge_showing(NET, "absent", B + NET, "addr", below + [gap]))


class ClashTest(unittest.TestCase):
    def test_by_hand(self):
        for listed, expected in [
                ([], None), ([GOOD], None), ([GOOD, GOOD], None), ([GOOD, (A, B, ("addr",))], (0, 1)), ([GOOD, (A, C, GOOD[2])], (0, 1)),
                ([((), B, ()), (A, C, ())], (0, 1)), ([((), A, ()), (A, C, ())], None), ([(B, C, ()), ((), (), ()), (C, (), ())], (0, 1)),
                ([(A, B, ()), (C, (), ()), (B, (), ())], (1, 2)), ([(A, (), ("tree",)), (("x", "a"), B, ())], (0, 1)),
                ([(A, B, ("tree",)), (("x", "a"), B, ())], None), ([(A, B, ("server",)), (("x", "a"), ("y", "a"), ())], None),
                ([((), A, ("server",)), (("0",), A, ())], (0, 1)), ([(A, B, ()), (B, C, ()), (A, C, ()), (B, (), ())], (0, 2))]:
            self.assertEqual(expected, clash((), listed), listed)
            self.assertEqual(expected, plaingaps.clash((), listed))

    def test_by_chance(self):
        names = [name + NET for name in small_names(["a", "b"], 2) + [("*",), ("*", "a")]]
        found = []
        for seed in range(400):
            chance = random.Random(seed)
            listed = []
            for _ in range(chance.randrange(5)):
                kinds = chance.choice([(), (), ("addr",), ("server",), ("tree",)])
                listed.append((chance.choice(names), chance.choice(names), kinds))
            found.append(clash(NET, listed))
            self.assertEqual(plaingaps.clash(NET, listed), found[-1], listed)
        self.assertGreater(len(set(found)), 5)

    def test_two_zones(self):
        for seed in SEEDS:
            one, other = random_zone(seed), random_zone(seed + 500)
            if one.apex == other.apex:
                listed = gaps(one)[:20] + gaps(other)[:20]
                self.assertEqual(plaingaps.clash(one.apex, listed), clash(one.apex, listed))


class WrongTest(unittest.TestCase):
    def check(self, error, value, call):
        with self.assertRaises(error) as caught:
            call()
        self.assertEqual(value, caught.exception.value)

    def test_apexes(self):
        for value in NOTHING_AT_ALL + [("*",), ("*", "a")]:
            for call in [lambda: shown(value, [None], None, None), lambda: clash(value, [None]),
                         lambda: judge_showing(value, None, None, None, None)]:
                self.check(InvalidName, value, call)

    def test_gaps(self):
        good = ((), A, ())
        for wrong in NOTHING_AT_ALL + [(A, B), (A, B, ("b",)), (A, B, ("tree", "addr")), list(GOOD), (A, ("a", "*"), ())]:
            for at in range(3):
                listed = [good] * at + [wrong, ["later"]]
                for call in [lambda: shown((), listed, ("*",), None), lambda: clash((), listed)]:
                    self.check(InvalidGap, wrong, call)
        inside = (NET, ("a", "net"), ())
        for outside in [((), NET, ()), (NET, (), ()), (("a", "net"), ("net", "a"), ()), (("xnet",), NET, ())]:
            for call in [lambda: shown(NET, [inside, outside, ["later"]], ("*",), None), lambda: clash(NET, [inside, outside, inside])]:
                self.check(InvalidGap, outside, call)

    def test_words(self):
        for value in NOTHING_AT_ALL + ["found", "alias", "Absent", "", ["absent"], ("empty",), 0]:
            self.check(InvalidWord, value, lambda: judge_showing((), value, ("*",), None, None))

    def test_names_and_kinds(self):
        zone = zone_with(NET, [])
        calls = [lambda name, kind: shown(NET, [], name, kind), lambda name, kind: showing(zone, name, kind),
                 lambda name, kind: judge_showing(NET, "absent", name, kind, [])]
        for call in calls:
            for value in NOTHING_AT_ALL + [("*",), ("*", "net")]:
                self.check(InvalidName, value, lambda: call(value, None))
            for value in [(), ("org",), ("net", "a")]:
                self.check(OutOfZone, value, lambda: call(value, None))
            for value in NOTHING_AT_ALL + ["none", ("addr",)]:
                self.check(InvalidKind, value, lambda: call(NET, value))

    def test_plain_reading(self):
        self.assertFalse(plainly.beneath((), ()))
        self.assertEqual(("b", "a"), plaingaps.in_common(("x", "b", "a"), ("y", "b", "a")))
