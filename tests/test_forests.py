"""Forests, homes, plain readings and faults."""

import unittest

from rootward.errors import InvalidApex, InvalidForest, InvalidKind, InvalidMachines, InvalidName
from rootward.forests import Forest, faults, home, homes, parent, plain
from rootward.zones import Zone
from tests import plainforests
from tests.sampleforests import NET, NN, NO, ORG, SHOP, WWW, random_forest, shop_forest, shop_zones, with_more, zone_of
from tests.samples import KINDS, NOTHING_AT_ALL, Stranger, nested

ROOT = zone_of((), ("ns",), [])
SERVES = {1: [()], 2: [NET, ORG], 3: [SHOP]}


def chain_forest(many, kind="alias"):
    """A root zone with so many names, each an alias of the next one, or with trees that lead from one to the next."""
    names = [(f"n{index}",) for index in range(many + 1)]
    if kind == "alias":
        more = [(one, "alias", 100 + index, other) for index, (one, other) in enumerate(zip(names, names[1:]))]
        return Forest([zone_of((), ("ns",), more)], {1: [()]}, [1])
    return Forest([zone_of((), ("ns",), [(one, "tree", 100, other) for one, other in zip(names, names[1:])])], {1: [()]}, [1])


class ForestTest(unittest.TestCase):
    def raises(self, error, value, call, *arguments):
        with self.assertRaises(error) as caught:
            call(*arguments)
        self.assertEqual(value, caught.exception.value)

    def test_what_it_tells(self):
        for zones in [shop_zones(), shop_zones()[::-1]]:
            forest = Forest(zones, {3: [SHOP], 2: [ORG, NET], 1: [()], 0: [], 2 ** 32 - 1: [NET]}, [0, 1])
            self.assertEqual([(), NET, SHOP, ORG], [zone.apex for zone in forest.zones])
            self.assertEqual([0, 1, 2, 3, 2 ** 32 - 1], forest.machines)
            self.assertEqual([0, 1], forest.roots)
            self.assertEqual([[], [()], [NET, ORG], [SHOP], [NET], []], [forest.serves(machine) for machine in [0, 1, 2, 3, 2 ** 32 - 1, 77]])
            self.assertEqual([zone for zone in shop_zones() if zone.apex == SHOP], [forest.zone(SHOP)])

    def test_equality(self):
        forest = shop_forest()
        self.assertEqual(forest, Forest(shop_zones()[::-1], {3: [SHOP], 2: [ORG, NET], 1: [()]}, [1]))
        others = [
            Forest(shop_zones()[:2] + shop_zones()[3:], {1: [()], 2: [NET], 3: [SHOP]}, [1]), Forest(shop_zones(), {1: [()], 2: [NET], 3: [SHOP]}, [1]),
            Forest(shop_zones(), {1: [()], 2: [NET, ORG], 3: [SHOP], 4: []}, [1]), Forest(shop_zones(), SERVES, [1, 2]),
            Forest([shop_zones()[0].with_serial(9)] + shop_zones()[1:], SERVES, [1])]
        for other in others + [None, 1, "forest", shop_zones(), ROOT, (), Stranger()]:
            self.assertFalse(forest == other)
            self.assertTrue(forest != other)

    def test_no_zones(self):
        for value in NOTHING_AT_ALL + [shop_zones()[1:], shop_zones() + [ROOT], shop_zones() + shop_zones()[:1], tuple(shop_zones()), [ROOT, None],
                                       [ROOT, ROOT.records()], ROOT, [[ROOT]], [ROOT, shop_forest()], {(): ROOT}]:
            self.raises(InvalidForest, "zones", Forest, value, SERVES, [1])
            self.raises(InvalidForest, "zones", Forest, value, None, None)

    def test_no_serves(self):
        wrong = [{True: [()]}, {-1: [()]}, {2 ** 32: [()]}, {"1": [()]}, {None: [()]}, {1: ()}, {1: [("no",)]}, {1: [(), ()]}, {1: [NET, (), NET]},
                 {1: [[]]}, {1: [["net"]]}, {1: [NET, None]}, {1: None}, {1: [()], 2: "net"}, {1: [("*", "net")]}, {1: [()], 2: [[]]}, [[1, [()]]]]
        for value in [value for value in NOTHING_AT_ALL if value != {}] + wrong:
            self.raises(InvalidForest, "serves", Forest, shop_zones(), value, [1])
            self.raises(InvalidForest, "serves", Forest, shop_zones(), value, "no roots")

    def test_no_roots(self):
        for value in NOTHING_AT_ALL + [[2, 1], [1, 1], [4], [1, 4], [True], (1,), {1: True}, [1, None], [[1]], ["1"], nested(list, 99)]:
            self.raises(InvalidForest, "roots", Forest, shop_zones(), SERVES, value)
        self.raises(InvalidForest, "roots", Forest, shop_zones(), {}, [])
        self.assertEqual([1, 2, 3], Forest(shop_zones(), SERVES, [1, 2, 3]).roots)

    def test_zone_and_serves_refuse(self):
        forest = shop_forest()
        for value in NOTHING_AT_ALL + [("com",), WWW, ["net"], ("*", "net")]:
            if value != ():
                self.raises(InvalidApex, value, forest.zone, value)
                self.raises(InvalidApex, value, parent, forest, value)
        for value in NOTHING_AT_ALL + ["1", [1], (1,)]:
            self.raises(InvalidMachines, value, forest.serves, value)


class HomesTest(unittest.TestCase):
    def test_home_and_parent(self):
        forest = shop_forest()
        for name, apex in [((), ()), (("com",), ()), (NET, NET), (("x", "net"), NET), (SHOP, SHOP), (WWW, SHOP), (("shop", "nets"), ()), (("a", "b", "org"), ORG),
                           (("net", "org"), ORG), (("shop",), ())]:
            self.assertEqual(apex, home(forest, name))
        self.assertEqual([None, (), NET, ()], [parent(forest, apex) for apex in [(), NET, SHOP, ORG]])
        deep = Forest([ROOT, zone_of(("c", "b", "a"), ("ns",), []), zone_of(("a",), ("ns",), [])], {1: [()]}, [1])
        self.assertEqual([("a",), ()], [parent(deep, ("c", "b", "a")), parent(deep, ("a",))])

    def test_plain_by_hand(self):
        zones = [
            zone_of((), ("ns",), [(("a",), "alias", 50, ("a", "net")), (("t",), "tree", 40, NET), (("e",), "addr", 3, 1), (("gone",), "server", 8, NN),
                                  (("up",), "alias", 7, ("x", "y", "gone")), (("self",), "alias", 2, ("self",)), (NET, "server", 4, NN)]),
            zone_of(NET, NN, [(("a", "net"), "alias", 30, ("e",)), (("b", "net"), "alias", 20, ("none", "net"))])]
        forest = Forest(zones, {1: [()]}, [1])
        rows = [
            (("a",), "addr", ("found", 3, (1,)), [("a",), ("a", "net"), ("e",)]), (("a",), "text", ("empty", 5), [("a",), ("a", "net"), ("e",)]),
            (("a",), "alias", ("found", 50, (("a", "net"),)), [("a",)]), (("b", "t"), "addr", ("absent", 5), [("b", "t"), ("b", "net"), ("none", "net")]),
            (("t",), "tree", ("found", 40, (NET,)), [("t",)]), (("gone",), "addr", ("broken", ("gone",)), [("gone",)]),
            (("up",), "addr", ("broken", ("gone",)), [("up",), ("x", "y", "gone")]), (("self",), "addr", ("long",), [("self",)] * 25),
            (NET, "server", ("found", 9, (NN,)), [NET]), (("q",), "addr", ("absent", 5), [("q",)])]
        for name, kind, outcome, names in rows:
            self.assertEqual((outcome, names), plain(forest, name, kind))
        self.assertEqual([(), NET], homes(forest, ("a",), "addr"))
        self.assertEqual([NET], homes(forest, NET, "server"))
        self.assertEqual([()], homes(forest, ("up",), "addr"))
        self.assertEqual([(), NET], homes(forest, ("b", "t"), "addr"))

    def test_twenty_five_names(self):
        for many in [23, 24, 25, 26]:
            forest = chain_forest(many)
            outcome, names = plain(forest, ("n0",), "addr")
            self.assertEqual(min(many + 1, 25), len(names))
            self.assertEqual(("absent", 5) if many <= 24 else ("long",), outcome)
            self.assertEqual([(f"n{index}",) for index in range(len(names))], names)
            outcome, names = plain(chain_forest(many, "tree"), ("w", "n0"), "addr")
            self.assertEqual([min(many + 1, 25), ("absent", 5) if many <= 24 else ("long",)], [len(names), outcome])
        grown = Forest([zone_of((), ("ns",), [(("a",), "tree", 9, ("x" * 20, "y" * 20, "a"))])], {1: [()]}, [1])
        self.assertEqual([("long",), 50], [plain(grown, ("w", "a"), "addr")[0], len(plain(grown, ("w", "a"), "addr")[1][-1])])

    def test_by_chance(self):
        for seed in range(25):
            forest = random_forest(seed)
            slow = plainforests.Plain(forest)
            for apex in slow.records:
                self.assertEqual(slow.parent(apex), parent(forest, apex))
                for label in ["n", "m", "w", "x", "q", "zz"]:
                    name = (label,) + apex
                    self.assertEqual(slow.home(name), home(forest, name))
                    for kind in ["addr", "alias", "server"]:
                        self.assertEqual(slow.chase(name, kind), plain(forest, name, kind))
                        self.assertEqual(sorted(slow.homes(name, kind), key=lambda one: one[::-1]), homes(forest, name, kind))

    def test_errors(self):
        forest = shop_forest()
        for call in [lambda *some: home(*some[:2]), plain, homes]:
            for value in NOTHING_AT_ALL + [shop_zones(), SERVES, Forest]:
                with self.assertRaises(InvalidForest) as caught:
                    call(value, None, None)
                self.assertEqual(value, caught.exception.value)
            for value in NOTHING_AT_ALL + [("*",), ("*", "net")]:
                with self.assertRaises(InvalidName) as caught:
                    call(forest, value, None)
                self.assertEqual(value, caught.exception.value)
        for call in [plain, homes]:
            for value in NOTHING_AT_ALL:
                with self.assertRaises(InvalidKind) as caught:
                    call(forest, WWW, value)
                self.assertEqual(value, caught.exception.value)
        for call in [faults, lambda value: parent(value, NET)]:
            with self.assertRaises(InvalidForest) as caught:
                call([forest])
            self.assertEqual([forest], caught.exception.value)


class FaultsTest(unittest.TestCase):
    def test_each_alone(self):
        good = shop_zones()
        self.assertEqual([], faults(shop_forest()))
        self.assertEqual([("servers", ORG)], faults(self.forest(good[:2] + [zone_of(ORG, NO, [(NO, "addr", 9, 3)])] + good[3:])))
        without = good[0].without([(ORG, "server", 9, NN)])
        self.assertEqual([("no cut", ORG)], faults(self.forest([without] + good[1:])))
        dark = good[0].without([(NN, "addr", 9, 2)])
        self.assertEqual([("glue lacking", NET, NN)], faults(self.forest([dark] + good[1:])))
        other = good[0].with_records([(NN, "addr", 9, 3)])
        found = faults(Forest([other] + good[1:], {1: [()], 2: [NET, ORG], 3: [SHOP, NET]}, [1]))
        self.assertEqual([("glue", NET, NN)], found)
        self.assertEqual([("lame", SHOP, NO, 3)], faults(Forest(good, {1: [()], 2: [NET, ORG]}, [1])))
        more = good[3].with_records([(("x",) + SHOP, "server", 9, NN), (("a",) + SHOP, "server", 9, NN)])
        self.assertEqual([("no zone", SHOP, ("a",) + SHOP), ("no zone", SHOP, ("x",) + SHOP)], faults(self.forest(good[:3] + [more])))

    def forest(self, zones):
        return Forest(zones, SERVES, [1])

    def test_all_together(self):
        zones = [
            zone_of((), ("ns",), [(NET, "server", 9, NN), (NET, "server", 9, ("m", "net")), (NN, "addr", 9, 2), (NN, "addr", 9, 7), (ORG, "server", 9, NO),
                                  (("com",), "server", 9, NN)]),
            zone_of(NET, NN, [(NN, "addr", 9, 2), (("m", "net"), "addr", 9, 4), (("b", "net"), "server", 9, NN)]),
            zone_of(ORG, ("n2", "org"), [(NO, "alias", 9, NN)]), zone_of(SHOP, NO, []), zone_of(("z", "org"), NO, [])]
        forest = Forest(zones, {1: [()], 2: [NET]}, [1])
        wanted = [
            ("servers", NET), ("glue lacking", NET, ("m", "net")), ("lame", NET, ("m", "net"), 4), ("glue", NET, NN), ("lame", NET, NN, 7), ("no cut", SHOP),
            ("servers", ORG), ("glue lacking", ORG, NO), ("lame", ORG, NO, 2), ("no cut", ("z", "org")), ("no zone", (), ("com",)), ("no zone", NET, ("b", "net"))]
        self.assertEqual(wanted, faults(forest))
        self.assertEqual(wanted, plainforests.faults(forest))

    def test_by_chance(self):
        for seed in range(150):
            forest = random_forest(seed)
            self.assertEqual(plainforests.faults(forest), faults(forest))

    def test_glue_by_aliases(self):
        # The addresses of a plain reading count, wherever its chase ends.
        zones = [zone_of((), ("ns",), [(NET, "server", 9, NN), (NN, "addr", 5, 2), (("k",), "addr", 9, 2)]), zone_of(NET, NN, [(NN, "alias", 9, ("k",))])]
        self.assertEqual([], faults(Forest(zones, {1: [()], 2: [NET]}, [1])))
        zones[0] = with_more(zones[0], [(("k",), "addr", 9, 3)])
        self.assertEqual([("glue", NET, NN)], faults(Forest(zones, {1: [()], 2: [NET]}, [1])))

    def test_root_alone(self):
        self.assertEqual([], faults(Forest([Zone((), ROOT.records())], {5: []}, [5])))
        for kind in KINDS:
            self.assertEqual("absent", plain(Forest([ROOT], {5: []}, [5]), ("q",), kind)[0][0])
