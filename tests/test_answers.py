"""Answers of zones, chases and replies."""

import unittest

from rootward.answers import answer, answers, chase, chase_age, chase_end, reply, source
from rootward.errors import InvalidKind, InvalidName, OutOfZone
from rootward.labels import compared, size
from tests import plainly
from tests.samples import KINDS, NOTHING_AT_ALL, random_zone, shop_zone, small_names, start_at, zone_with

NET = ("net",)
LAB = ("lab", "net")
LAB_SERVERS = (("ns", "lab", "net"), ("n2", "net"), ("ns", "org"))
LAB_ANSWER = ("cut", 70, LAB, LAB_SERVERS, ((("ns", "lab", "net"), 71, (29, 30)),))


class SourceTest(unittest.TestCase):
    def test_each_word(self):
        zone = shop_zone()
        for name, expected in [
                (NET, ("own", NET)), (("www", "net"), ("own", ("www", "net"))), (("deep", "net"), ("own", ("deep", "net"))),
                (("al", "net"), ("own", ("al", "net"))), (LAB, ("cut", LAB)), (("ns", "lab", "net"), ("cut", LAB)),
                (("a", "b", "lab", "net"), ("cut", LAB)), (("old", "net"), ("own", ("old", "net"))),
                (("a", "old", "net"), ("tree", ("old", "net"))), (("b", "a", "old", "net"), ("tree", ("old", "net"))),
                (("q", "net"), ("wild", ("*", "net"))), (("r", "q", "net"), ("wild", ("*", "net"))),
                (("q", "al", "net"), ("wild", ("*", "al", "net"))), (("q", "www", "net"), ("none", ("www", "net"))),
                (("q", "r", "deep", "net"), ("none", ("deep", "net"))), (("xlab", "net"), ("wild", ("*", "net")))]:
            self.assertEqual(expected, source(zone, name))

    def test_root(self):
        zone = zone_with((), [(("*",), "addr", 1, 5), (("c",), "server", 1, ("n",))])
        self.assertEqual([("own", ()), ("wild", ("*",)), ("cut", ("c",))], [source(zone, n) for n in [(), ("a", "b"), ("c",)]])
        self.assertEqual(("none", ()), source(zone_with((), []), ("a", "b")))

    def test_apex_with_a_tree(self):
        zone = zone_with(NET, [(NET, "tree", 9, ("org",))])
        self.assertEqual(("own", NET), source(zone, NET))
        self.assertEqual(("tree", NET), source(zone, ("a", "net")))
        self.assertEqual(("tree", 9, NET, ("b", "a", "org")), answer(zone, ("b", "a", "net"), "addr"))
        self.assertEqual(("found", 9, (("org",),)), answer(zone, NET, "tree"))


class AnswerTest(unittest.TestCase):
    def test_by_hand(self):
        zone = shop_zone()
        for name, kind, expected in [
                ("www", "addr", ("found", 300, (20, 21))), ("www", "text", ("found", 30, ("hi",))),
                ("www", "mail", ("empty", 50)), ("deep", "addr", ("empty", 50)), ("a.deep", "addr", ("found", 10, (1,))),
                ("b.deep", "addr", ("absent", 50)), ("q", "addr", ("found", 40, (99,))), ("q", "text", ("empty", 50)),
                ("q.r", "mail", ("found", 41, ((5, ("m",)),))), ("web", "addr", ("alias", 20, ("www", "net"))),
                ("web", "alias", ("found", 20, (("www", "net"),))), ("q.al", "start", ("alias", 15, ("www", "net"))),
                ("q.al", "alias", ("found", 15, (("www", "net"),))), ("al", "addr", ("empty", 50)),
                ("lab", "server", LAB_ANSWER), ("lab", "addr", LAB_ANSWER), ("ns.lab", "addr", LAB_ANSWER),
                ("x.other.lab", "tree", LAB_ANSWER), ("old", "tree", ("found", 25, (("www", "org"),))),
                ("old", "addr", ("found", 26, (5,))), ("old", "text", ("empty", 50)),
                ("x.old", "tree", ("tree", 25, ("old", "net"), ("x", "www", "org"))),
                ("x.y.moved", "addr", ("tree", 27, ("moved", "net"), ("x", "y", "net")))]:
            self.assertEqual(expected, answer(zone, tuple(name.split(".")) + NET, kind), (name, kind))
        self.assertEqual(("found", 60, (("n",),)), answer(zone, NET, "server"))
        self.assertEqual(("empty", 50), answer(zone, NET, "addr"))

    def test_lesser_age(self):
        for age, absent, lesser in [(60, 50, 50), (50, 60, 50), (0, 60, 0), (60, 0, 0)]:
            zone = zone_with(NET, [], age=age, absent=absent)
            self.assertEqual(("empty", lesser), answer(zone, NET, "addr"))
            self.assertEqual(("absent", lesser), answer(zone, ("a", "net"), "addr"))

    def test_cut_without_glue(self):
        zone = zone_with(NET, [(LAB, "server", 5, ("ns", "org")), (("x", "lab", "net"), "addr", 6, 1), (LAB, "server", 5, LAB)])
        self.assertEqual(("cut", 5, LAB, (LAB, ("ns", "org")), ()), answer(zone, LAB, "addr"))
        self.assertEqual(((LAB, 7, (9,)),), answer(zone.with_records([(LAB, "addr", 7, 9)]), LAB, "addr")[4])

    def test_by_chance(self):
        words = set()
        for seed in range(200):
            zone = random_zone(seed)
            for name in [name + zone.apex for name in small_names(["a", "b", "c"], 3)]:
                told = [plainly.answer(zone.apex, zone.records(), name, kind) for kind in KINDS]
                self.assertEqual(told, answers(zone, name))
                self.assertEqual(told, [answer(zone, name, kind) for kind in KINDS])
                words.update([found[0] for found in told])
                decided = source(zone, name)
                self.assertEqual(decided[0] in ("cut", "tree"), told[0][0] in ("cut", "tree"))
                self.assertEqual(decided[0] == "own", name in zone.names() and told[0][0] != "cut")
                self.assertEqual(decided[0] == "none", told[0][0] == "absent")
        self.assertEqual(6, len(words))


class ChaseTest(unittest.TestCase):
    def check(self, zone, name, kind, end, steps):
        found = chase(zone, name, kind)
        self.assertEqual(steps, len(found))
        self.assertEqual(end, chase_end(zone, name, kind))
        self.assertEqual(min([told[1] for _, told in found]), chase_age(zone, name, kind))
        for step, told in found:
            self.assertEqual(told, answer(zone, step, kind))
        return found

    def test_told(self):
        zone = shop_zone()
        self.check(zone, ("www", "net"), "addr", ("told", ("www", "net")), 1)
        found = self.check(zone, ("web", "net"), "addr", ("told", ("www", "net")), 2)
        self.assertEqual([(("web", "net"), ("alias", 20, ("www", "net"))), (("www", "net"), ("found", 300, (20, 21)))], found)
        self.assertEqual(20, chase_age(zone, ("web", "net"), "addr"))
        self.check(zone, ("web", "moved", "net"), "mail", ("told", ("www", "net")), 3)
        self.check(zone, ("ns", "lab", "moved", "net"), "mail", ("told", ("ns", "lab", "net")), 2)
        self.check(zone, ("x", "deep", "moved", "net"), "mail", ("told", ("x", "deep", "net")), 2)
        self.check(zone, ("web", "net"), "alias", ("told", ("web", "net")), 1)

    def test_outside(self):
        zone = shop_zone()
        self.check(zone, ("x", "old", "net"), "addr", ("outside", ("x", "www", "org")), 1)
        self.check(zone, ("x", "old", "moved", "net"), "addr", ("outside", ("x", "www", "org")), 2)
        out = zone_with(NET, [(("a", "net"), "alias", 1, ()), (("b", "net"), "alias", 1, ("net", "b"))])
        self.check(out, ("a", "net"), "addr", ("outside", ()), 1)
        self.check(out, ("b", "net"), "addr", ("outside", ("net", "b")), 1)

    def test_ring(self):
        records = [((label, "net"), "alias", 5, (after, "net")) for label, after in ["ab", "bc", "cb", "dd"]]
        zone = zone_with(NET, records)
        self.check(zone, ("a", "net"), "addr", ("ring", ("b", "net")), 3)
        self.check(zone, ("b", "net"), "addr", ("ring", ("b", "net")), 2)
        self.check(zone, ("d", "net"), "addr", ("ring", ("d", "net")), 1)
        trees = zone_with(NET, [(("s", "net"), "tree", 5, ("t", "net")), (("t", "net"), "tree", 4, ("s", "net"))])
        self.check(trees, ("x", "s", "net"), "addr", ("ring", ("x", "s", "net")), 2)
        self.assertEqual(4, chase_age(trees, ("x", "s", "net"), "addr"))

    def test_size(self):
        # Each step adds two to the size: the 100th name has the size 205.
        zone = zone_with(("z",), [(("x", "z"), "tree", 5, ("b", "x", "z"))])
        found = chase(zone, ("a", "x", "z"), "addr")
        self.assertEqual([7, 9, 11], [size(name) for name, _ in found[:3]])
        self.assertEqual(100, len(found))
        wide = zone_with(("z",), [(("x", "z"), "tree", 5, ("b" * 3, "x", "z"))])
        found = self.check(wide, ("a", "x", "z"), "addr", ("long", ("a",) + ("bbb",) * 63 + ("x", "z")), 63)
        self.assertEqual(255, size(found[-1][0]))
        even = self.check(wide, ("aa", "x", "z"), "addr", ("long", ("aa",) + ("bbb",) * 62 + ("x", "z")), 62)
        self.assertEqual(252, size(even[-1][0]))

    def test_greatest_size(self):
        target = ("y" * 20,) * 10 + ("z",)
        zone = zone_with(("z",), [(("t", "z"), "tree", 5, target)])
        for prefix, total in [(("x" * 20, "x" * 19), 254), (("x" * 20, "x" * 20), 255), (("x" * 20, "x" * 18, "x"), 255),
                              (("x" * 20, "x" * 19, "x"), 256), (("x" * 20, "x" * 20, "x"), 257)]:
            name, moved = prefix + ("t", "z"), prefix + target
            self.assertEqual(total, size(moved))
            if total <= 255:
                self.check(zone, name, "addr", ("told", moved), 2)
            else:
                self.check(zone, name, "addr", ("long", moved), 1)

    def test_100_names(self):
        for last in [99, 100, 101, 102]:
            records = [((f"n{k}", "z"), "alias", k, (f"n{k + 1}", "z")) for k in range(1, last)]
            zone = zone_with(("z",), records)
            end = ("told", (f"n{last}", "z")) if last <= 100 else ("long", ("n101", "z"))
            found = self.check(zone, ("n1", "z"), "addr", end, min(last, 100))
            self.assertEqual([(f"n{k}", "z") for k in range(1, min(last, 100) + 1)], [name for name, _ in found])

    def test_first_word_that_holds(self):
        records = [((f"n{k}", "z"), "alias", 5, (f"n{k + 1}", "z")) for k in range(1, 100)]
        ring = zone_with(("z",), records + [(("n100", "z"), "alias", 5, ("n1", "z"))])
        self.check(ring, ("n1", "z"), "addr", ("long", ("n1", "z")), 100)
        self.check(ring, ("n2", "z"), "addr", ("long", ("n2", "z")), 100)
        short = zone_with(("z",), records[:98] + [(("n99", "z"), "alias", 5, ("n1", "z"))])
        self.check(short, ("n1", "z"), "addr", ("ring", ("n1", "z")), 99)
        out = zone_with(("z",), records + [(("n100", "z"), "alias", 5, ("n1",))])
        self.check(out, ("n1", "z"), "addr", ("outside", ("n1",)), 100)
        large = ("x" * 20,) * 13
        far = zone_with(("z",), [(("a", "z"), "alias", 5, large), (("b", "z"), "alias", 5, large + ("z",))])
        self.check(far, ("a", "z"), "addr", ("outside", large), 1)
        self.check(far, ("b", "z"), "addr", ("long", large + ("z",)), 1)

    def test_by_chance(self):
        words = set()
        for seed in range(150):
            zone = random_zone(seed)
            for name in [name + zone.apex for name in small_names(["a", "b", "c"], 2)]:
                for kind in ["addr", "alias"]:
                    found, end = plainly.chase(zone.apex, zone.records(), name, kind)
                    self.assertEqual(found, self.check(zone, name, kind, end, len(found)))
                    words.add(end[0])
        self.assertEqual({"told", "outside", "long", "ring"}, words)


class ReplyTest(unittest.TestCase):
    def start(self, zone):
        name, kind, age, data = start_at(zone.apex)
        return [(name, kind, 50, data)]

    def test_found(self):
        www = [(("www", "net"), "addr", 300, 20), (("www", "net"), "addr", 300, 21)]
        web = (("web", "net"), "alias", 20, ("www", "net"))
        zone = shop_zone()
        self.assertEqual((0, www, [], []), reply(zone, ("www", "net"), "addr"))
        self.assertEqual((0, [web] + www, [], []), reply(zone, ("web", "net"), "addr"))
        moved = (("moved", "net"), "tree", 27, NET)
        self.assertEqual((0, [moved, web] + www, [], []), reply(zone, ("web", "moved", "net"), "addr"))

    def test_wild_names(self):
        zone = shop_zone()
        self.assertEqual((0, [(("q", "r", "net"), "addr", 40, 99)], [], []), reply(zone, ("q", "r", "net"), "addr"))
        alias = (("q", "al", "net"), "alias", 15, ("www", "net"))
        self.assertEqual((0, [alias, (("www", "net"), "text", 30, "hi")], [], []), reply(zone, ("q", "al", "net"), "text"))

    def test_absent_and_empty(self):
        zone = shop_zone()
        self.assertEqual((3, [], self.start(zone), []), reply(zone, ("x", "www", "net"), "addr"))
        self.assertEqual((0, [], self.start(zone), []), reply(zone, ("www", "net"), "mail"))
        moved = (("moved", "net"), "tree", 27, NET)
        self.assertEqual((3, [moved], self.start(zone), []), reply(zone, ("x", "www", "moved", "net"), "addr"))

    def test_cut(self):
        zone = shop_zone()
        servers = [(LAB, "server", 70, server) for server in LAB_SERVERS]
        beside = [(("ns", "lab", "net"), "addr", 71, 29), (("ns", "lab", "net"), "addr", 71, 30)]
        self.assertEqual((0, [], servers, beside), reply(zone, ("x", "lab", "net"), "addr"))
        moved = (("moved", "net"), "tree", 27, NET)
        self.assertEqual((0, [moved], servers, beside), reply(zone, ("x", "lab", "moved", "net"), "addr"))

    def test_ends_without_an_answer(self):
        zone = shop_zone()
        tree = (("old", "net"), "tree", 25, ("www", "org"))
        self.assertEqual((0, [tree], [], []), reply(zone, ("x", "old", "net"), "addr"))
        ring = zone_with(NET, [(("a", "net"), "alias", 5, ("a", "net"))])
        self.assertEqual((0, [(("a", "net"), "alias", 5, ("a", "net"))], [], []), reply(ring, ("a", "net"), "addr"))

    def test_each_record_once(self):
        tree = (("x", "z"), "tree", 5, ("bbb", "x", "z"))
        zone = zone_with(("z",), [tree])
        self.assertEqual((0, [tree], [], []), reply(zone, ("a", "x", "z"), "addr"))

    def test_several_in_order(self):
        cut = ("c", "z")
        records = [(cut, "server", 5, server) for server in [("b", "c", "z"), ("a", "c", "z"), cut, ("o",)]]
        records += [(("b", "c", "z"), "addr", 6, 10), (("b", "c", "z"), "addr", 6, 9), (cut, "addr", 7, 8), (("q", "c", "z"), "addr", 7, 8)]
        status, told, above, beside = reply(zone_with(("z",), records), cut, "addr")
        self.assertEqual([0, []], [status, told])
        self.assertEqual([("o",), cut, ("a", "c", "z"), ("b", "c", "z")], [record[3] for record in above])
        self.assertEqual([(cut, "addr", 7, 8), (("b", "c", "z"), "addr", 6, 9), (("b", "c", "z"), "addr", 6, 10)], beside)
        self.assertEqual(1, compared(beside[1][0], beside[0][0]))

    def test_by_chance(self):
        for seed in range(150):
            zone = random_zone(seed)
            for name in [name + zone.apex for name in small_names(["a", "b", "c"], 2)]:
                found = plainly.chase(zone.apex, zone.records(), name, "addr")[0]
                status, told, above, beside = reply(zone, name, "addr")
                last = found[-1][1]
                self.assertEqual(3 if last[0] == "absent" else 0, status)
                self.assertEqual(len(told), len(set(told)))
                self.assertEqual(last[0] in ("absent", "empty", "cut"), above != [])
                self.assertEqual(last[0] == "cut" and last[4] != (), beside != [])
                for step, one in found:
                    if one[0] == "alias":
                        self.assertIn((step, "alias") + one[1:], told)
                    if one[0] == "found":
                        self.assertEqual(list(one[2]), [record[3] for record in told if record[:2] == (step, "addr")])


class WrongTest(unittest.TestCase):
    def setUp(self):
        self.zone = shop_zone()
        self.with_kind = [answer, chase, chase_end, chase_age, reply]
        self.without_kind = [source, answers]

    def check(self, error, value, call):
        with self.assertRaises(error) as caught:
            call()
        self.assertEqual(value, caught.exception.value)

    def test_names(self):
        for name in NOTHING_AT_ALL + [("*",), ("*", "net"), ["net"]]:
            for call in self.with_kind:
                self.check(InvalidName, name, lambda: call(self.zone, name, ["no kind"]))
            for call in self.without_kind:
                self.check(InvalidName, name, lambda: call(self.zone, name))

    def test_outside(self):
        for name in [(), ("org",), ("xnet",), ("net", "org")]:
            for call in self.with_kind:
                self.check(OutOfZone, name, lambda: call(self.zone, name, ["no kind"]))
            for call in self.without_kind:
                self.check(OutOfZone, name, lambda: call(self.zone, name))

    def test_kinds(self):
        for kind in NOTHING_AT_ALL + ["none", ["addr"]]:
            for call in self.with_kind:
                for name in [NET, ("q", "net"), LAB, ("x", "old", "net")]:
                    self.check(InvalidKind, kind, lambda: call(self.zone, name, kind))
