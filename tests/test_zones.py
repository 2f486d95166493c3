"""Zones: faults, errors, names, and zones made of others."""

import random
import unittest

from rootward.errors import (
    InvalidKind, InvalidName, InvalidRecord, InvalidSerial, InvalidZone, OutOfZone, Unfit, UnlikeAges)
from rootward.labels import ordered
from rootward.records import sets_of
from rootward.zones import Zone, faults
from tests import plainly
from tests.samples import (
    DATA, KINDS, NOTHING_AT_ALL, random_zone, shop_zone, shown, small_names, start_at, zone_with)

NET = ("net",)
BASE = [start_at(NET), (NET, "server", 60, ("n",))]


def at(*labels):
    return labels + NET


class FaultsTest(unittest.TestCase):
    def check(self, expected, more, base=None):
        records = (BASE if base is None else base) + more
        found = [(tuple(name), word) for name, word in expected]
        self.assertEqual(found, faults(NET, records))
        self.assertEqual(found, faults(NET, (records + records)[::-1]))
        if found == []:
            self.assertEqual(len(set(records)), len(Zone(NET, records)))
            return
        with self.assertRaises(InvalidZone) as caught:
            Zone(NET, records)
        self.assertEqual(found, caught.exception.value)

    def test_none(self):
        self.check([], [])

    def test_alias(self):
        self.check([(at("a"), "alias")], [(at("a"), "alias", 1, NET), (at("a"), "alias", 1, ())])
        for kind in ["addr", "back", "mail", "text", "tree"]:
            self.check([(at("a"), "alias")], [(at("a"), "alias", 1, NET), (at("a"), kind, 1, DATA[kind][0])])
        self.check([(NET, "alias")], [(NET, "alias", 1, ())])
        self.check([], [(at("a"), "alias", 1, NET), (at("*"), "alias", 1, NET), (at("a", "a"), "alias", 1, NET)])

    def test_beneath_cut(self):
        cut = [(at("c"), "server", 1, ("n",))]
        for kind in ["alias", "back", "mail", "server", "text", "tree"]:
            self.check([(at("b", "a", "c"), "beneath cut")], cut + [(at("b", "a", "c"), kind, 1, DATA[kind][0])])
        self.check([], cut + [(at("b", "a", "c"), "addr", 1, 5), (at("c"), "addr", 1, 5), (at("*", "c"), "addr", 1, 5)])
        self.check([], cut + [(at("xc"), "text", 1, "x"), (at("c", "x"), "text", 1, "x")])

    def test_beneath_tree(self):
        for kind in ["addr", "alias", "back", "mail", "text", "tree"]:
            tree = [(at("t"), "tree", 1, ())]
            self.check([(at("b", "t"), "beneath tree")], tree + [(at("b", "t"), kind, 1, DATA[kind][0])])
            self.check([(at("b"), "beneath tree")], [(NET, "tree", 1, ()), (at("b"), kind, 1, DATA[kind][0])])
        self.check([(at("s", "t"), "beneath tree")], [(at("t"), "tree", 1, ()), (at("s", "t"), "server", 1, ("n",))])
        self.check([], [(at("t"), "tree", 1, ()), (at("t"), "addr", 1, 5), (at("t"), "text", 1, "x"), (at("xt"), "addr", 1, 5)])
        self.check([], [(NET, "tree", 1, ()), (NET, "addr", 1, 5)])

    def test_cut(self):
        for kind in ["back", "mail", "text", "tree"]:
            self.check([(at("c"), "cut")], [(at("c"), "server", 1, ("n",)), (at("c"), kind, 1, DATA[kind][0])])
        self.check([(at("c"), "alias"), (at("c"), "cut")], [(at("c"), "server", 1, NET), (at("c"), "alias", 1, NET)])

    def test_apex(self):
        self.check([(NET, "no server")], [], BASE[:1])
        self.check([(NET, "no start")], [], BASE[1:])
        self.check([(NET, "no server"), (NET, "no start")], [], [])
        self.check([(NET, "no server"), (NET, "no start")], [(at("a"), "addr", 1, 5)], [])

    def test_start(self):
        self.check([(at("a"), "start")], [start_at(at("a"))])
        self.check([(NET, "start")], [start_at(NET, serial=2)])
        self.check([(at("a"), "start")], [start_at(at("a")), start_at(at("a"), serial=2)])

    def test_tree(self):
        self.check([(at("a"), "tree")], [(at("a"), "tree", 1, NET), (at("a"), "tree", 1, ())])

    def test_wild(self):
        self.check([(at("*"), "wild")], [(at("*"), "server", 1, ("n",))])
        self.check([(at("*"), "wild")], [(at("*"), "tree", 1, ())])
        self.check([], [(at("*"), kind, 1, DATA[kind][0]) for kind in ["addr", "back", "mail", "text"]])

    def test_several(self):
        more = [
            (at("*"), "server", 1, ()), (at("*"), "tree", 1, ()), (at("*"), "tree", 1, NET), (at("*"), "alias", 1, ()),
            start_at(at("*")), (at("c"), "server", 1, ()), (at("x", "c"), "server", 1, ()), (at("y", "x", "c"), "text", 1, "t"),
            (at("t"), "tree", 1, ()), (at("u", "t"), "tree", 1, ()), (at("v", "u", "t"), "addr", 1, 1), start_at(NET, serial=9)]
        wild = [(at("*"), word) for word in ["alias", "cut", "start", "tree", "wild"]]
        rest = [(at("x", "c"), "beneath cut"), (at("y", "x", "c"), "beneath cut"), (at("u", "t"), "beneath tree"),
                (at("v", "u", "t"), "beneath tree")]
        self.check([(NET, "start")] + wild + rest, more)
        below = [(at("y", "c"), word) for word in ["beneath cut", "cut", "start"]]
        self.check(below, [(at("c"), "server", 1, ()), start_at(at("y", "c")), (at("y", "c"), "server", 1, ())])

    def test_by_chance(self):
        chance = random.Random(7)
        names = small_names(["a", "b"], 3) + [("*",) + name for name in small_names(["a", "b"], 2)]
        for _ in range(600):
            records = []
            for _ in range(chance.randrange(9)):
                kind = chance.choice(KINDS)
                records.append((chance.choice(names) + NET, kind, 5, chance.choice(DATA[kind])))
            found = faults(NET, records)
            self.assertEqual(plainly.faults(NET, records), set(found))
            self.assertEqual(sorted(set(found), key=lambda fault: (fault[0][::-1], fault[1])), found)

    def test_errors(self):
        for value in NOTHING_AT_ALL + [("*",), ("*", "net")]:
            with self.assertRaises(InvalidName) as caught:
                faults(value, [["no record"]])
            self.assertEqual(value, caught.exception.value)
        for value in NOTHING_AT_ALL:
            for place in range(3):
                records = BASE + [(at("a"), "addr", 1, 5)]
                records[place] = value
                with self.assertRaises(InvalidRecord) as caught:
                    faults(NET, records + [["later"]])
                self.assertEqual(value, caught.exception.value)


class ErrorsTest(unittest.TestCase):
    def check(self, error, value, apex, records):
        with self.assertRaises(error) as caught:
            Zone(apex, records)
        self.assertIs(error, type(caught.exception))
        self.assertEqual(value, caught.exception.value)

    def test_each_ahead_of_the_next(self):
        bad, outside = [("no record",)], (("org",), "addr", 1, 5)
        unlike = [(at("b"), "addr", 1, 5), (at("b"), "addr", 2, 5), (at("a"), "text", 1, "x"), (at("a"), "text", 2, "x")]
        for apex in NOTHING_AT_ALL + [("*",), ("*", "net")]:
            self.check(InvalidName, apex, apex, [outside] + unlike + [bad])
        for value in NOTHING_AT_ALL:
            self.check(InvalidRecord, value, NET, [outside] + unlike + [value, bad])
        self.check(UnlikeAges, (at("a"), "text"), NET, [outside] + unlike)
        self.check(UnlikeAges, (("org",), "addr"), NET, [outside, (("org",), "addr", 2, 6)])
        self.check(OutOfZone, ("org",), NET, [outside, ((), "addr", 1, 5)])
        self.check(OutOfZone, (), NET, BASE + [((), "addr", 1, 5), outside])
        self.check(OutOfZone, ("net", "x"), NET, BASE + [(("net", "x"), "addr", 1, 5)])
        self.check(InvalidZone, [(NET, "no server"), (NET, "no start")], NET, [])

    def test_names_of_others(self):
        zone = shop_zone()
        for call in [zone.has, zone.nearest, lambda name: zone.set_at(name, "addr")]:
            for value in NOTHING_AT_ALL:
                with self.assertRaises(InvalidName) as caught:
                    call(value)
                self.assertEqual(value, caught.exception.value)
            for name in [(), ("org",), ("*",), ("net", "org"), ("xnet",)]:
                with self.assertRaises(OutOfZone) as caught:
                    call(name)
                self.assertEqual(name, caught.exception.value)

    def test_set_at_in_order(self):
        zone = shop_zone()
        for kind in NOTHING_AT_ALL + ["none"]:
            with self.assertRaises(InvalidKind) as caught:
                zone.set_at(NET, kind)
            self.assertEqual(kind, caught.exception.value)
            with self.assertRaises(OutOfZone):
                zone.set_at((), kind)
            with self.assertRaises(InvalidName):
                zone.set_at(["net"], kind)


class ZoneTest(unittest.TestCase):
    def test_numbers(self):
        zone = Zone(NET, [start_at(NET, age=70, serial=5, absent=60), BASE[1], BASE[1]])
        self.assertEqual([NET, 5, 60, 2], [zone.apex, zone.serial, zone.absent_age, len(zone)])
        self.assertEqual(50, Zone(NET, [start_at(NET, age=50, absent=60), BASE[1]]).absent_age)
        self.assertEqual(0, Zone(NET, [start_at(NET, age=0, serial=2 ** 32 - 1), BASE[1]]).absent_age)
        self.assertEqual(2 ** 32 - 1, Zone(NET, [start_at(NET, serial=2 ** 32 - 1), BASE[1]]).serial)

    def test_records_and_sets(self):
        zone = shop_zone()
        records = zone.records()
        self.assertEqual(20, len(records))
        self.assertEqual(sets_of(records), zone.sets())
        self.assertEqual([], [one for one, other in zip(zone.sets(), zone.sets()[1:])
                              if (one[0][::-1], one[1]) >= (other[0][::-1], other[1])])
        self.assertEqual(zone, Zone(NET, records[::-1] + records))
        self.assertEqual(records, Zone(NET, records[::-1] + records).records())

    def test_names(self):
        zone = shop_zone()
        texts = ["net.", "*.net.", "al.net.", "*.al.net.", "deep.net.", "a.deep.net.", "lab.net.", "moved.net.", "old.net.",
                 "web.net.", "www.net."]
        self.assertEqual(texts, shown(zone.names()))
        self.assertEqual(["lab.net."], shown(zone.cuts()))
        self.assertEqual(["moved.net.", "old.net."], shown(zone.trees()))
        self.assertEqual(["*.net.", "*.al.net."], shown(zone.wilds()))

    def test_names_below_a_cut(self):
        more = [(at("*", "c"), "addr", 1, 5), (at("x", "y", "c"), "addr", 1, 5), (at("c"), "server", 1, ("n",)),
                (at("b", "a", "w"), "addr", 1, 5), (at("d", "a", "w"), "server", 1, ("n",))]
        zone = zone_with(NET, more)
        self.assertEqual(["net.", "c.net.", "w.net.", "a.w.net.", "b.a.w.net.", "d.a.w.net."], shown(zone.names()))
        self.assertEqual([], zone.wilds())
        self.assertEqual([at("c"), at("d", "a", "w")], zone.cuts())
        self.assertEqual([False, False, True], [zone.has(at(*name)) for name in [("*", "c"), ("y", "c"), ("a", "w")]])
        self.assertEqual((at("x", "y", "c"), "addr", 1, (5,)), zone.set_at(at("x", "y", "c"), "addr"))
        self.assertEqual([at("c"), at("w"), NET], [zone.nearest(at(*name)) for name in [("x", "y", "c"), ("z", "w"), ("q",)]])

    def test_set_at(self):
        zone = shop_zone()
        for name in zone.names() + [at("ns", "lab"), at("nothing"), at("*", "nothing")]:
            for kind in KINDS:
                found = [entry for entry in zone.sets() if entry[:2] == (name, kind)]
                self.assertEqual(found[0] if found else None, zone.set_at(name, kind))

    def test_by_chance(self):
        for seed in range(150):
            zone = random_zone(seed)
            names = plainly.names_of_zone(zone.apex, zone.records())
            self.assertEqual(ordered(list(names)), zone.names())
            for name in [name + zone.apex for name in small_names(["a", "b", "*"], 3) if "*" not in name[1:]]:
                self.assertIs(name in names, zone.has(name))
                above = [name[cut:] for cut in range(len(name) + 1) if name[cut:] in names]
                self.assertEqual(above[0], zone.nearest(name))
            self.assertEqual([name for name in zone.names() if name[:1] == ("*",)], zone.wilds())

    def test_equality(self):
        zone = shop_zone()
        self.assertTrue(zone == shop_zone())
        self.assertFalse(zone != shop_zone())
        self.assertFalse(zone == zone.with_serial(2))
        self.assertFalse(zone == zone.with_records([(at("q"), "addr", 1, 5)]))
        for value in NOTHING_AT_ALL + [zone.records(), zone.apex, 20]:
            self.assertFalse(zone == value)
            self.assertTrue(zone != value)

    def test_with_records(self):
        zone = zone_with(NET, [])
        record = (at("a"), "addr", 1, 5)
        more = zone.with_records([record, record, BASE[0]])
        self.assertEqual([2, 3], [len(zone), len(more)])
        self.assertEqual(Zone(NET, BASE + [record]), more)
        self.assertEqual(more, more.with_records([record]))
        self.assertEqual(zone, zone.with_records([]))
        unlike = (at("a"), "addr", 2, 6)
        for error, value, records in [
                (InvalidRecord, ["bad"], [unlike, (("org",), "addr", 1, 1), ["bad"], ["later"]]),
                (UnlikeAges, (at("a"), "addr"), [unlike, (("org",), "addr", 1, 1)]),
                (OutOfZone, ("org",), [(("org",), "addr", 1, 1), start_at(at("a"))]),
                (InvalidZone, [(at("a"), "start")], [start_at(at("a"))])]:
            with self.assertRaises(error) as caught:
                more.with_records(records)
            self.assertEqual(value, caught.exception.value)

    def test_without(self):
        record, other = (at("a"), "addr", 1, 5), (at("a"), "addr", 1, 6)
        zone = zone_with(NET, [record, other])
        self.assertEqual(zone_with(NET, [other]), zone.without([record, record]))
        self.assertEqual(zone_with(NET, []), zone.without([other, record]))
        self.assertEqual(zone, zone.without([]))
        aged = (at("a"), "addr", 2, 5)
        for error, value, records in [
                (InvalidRecord, ["bad"], [aged, ["bad"], ["later"]]),
                (Unfit, aged, [record, aged, (("org",), "addr", 1, 1), BASE[0]]),
                (Unfit, (("org",), "addr", 1, 1), [record, (("org",), "addr", 1, 1), BASE[0]]),
                (InvalidZone, [(NET, "no start")], [record, BASE[0]]),
                (InvalidZone, [(NET, "no server"), (NET, "no start")], BASE + [record, other])]:
            with self.assertRaises(error) as caught:
                zone.without(records)
            self.assertEqual(value, caught.exception.value)

    def test_with_serial(self):
        zone = shop_zone()
        for serial in [0, 1, 2, 2 ** 32 - 1]:
            other = zone.with_serial(serial)
            self.assertEqual([serial, 1], [other.serial, zone.serial])
            self.assertEqual([record for record in zone.records() if record[1] != "start"],
                             [record for record in other.records() if record[1] != "start"])
            self.assertEqual(zone, other.with_serial(1))
        for value in [value for value in NOTHING_AT_ALL] + [2 ** 32, -1, True, False, None, "1", [1], ("a",)]:
            with self.assertRaises(InvalidSerial) as caught:
                zone.with_serial(value)
            self.assertEqual(value, caught.exception.value)
