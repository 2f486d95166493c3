"""Zones and all names, against the answers to names that are gone through one by one."""

import unittest

from rootward.answers import answer, source
from rootward.errors import (
    InvalidKind, InvalidName, InvalidNumber, InvalidRecord, InvalidWord, OutOfZone)
from rootward.labels import first, names_of, nth_label, size
from rootward.namesets import below, count, join, just, meet, nobody, put_under, under, without
from rootward.zonenames import (
    are_alike, by_wild, counted, first_unlike, found_with, lean, needless, same_answers, with_word)
from rootward.zones import Zone
from tests import plainly
from tests.samples import KINDS, NOTHING_AT_ALL, random_zone, shop_zone, start_at, zone_with

WORDS = ["absent", "alias", "cut", "empty", "found", "tree"]
NET = ("net",)
LAB = ("lab", "net")
SEEDS = range(16)


def near(zone):
    """Return names of a zone, and some beside, below and above them."""
    found = {("q",), (), ("a",), ("b", "q")}
    for record in zone.records():
        name = record[0][1:] if record[0][:1] == ("*",) else record[0]
        for above in [name[cut:] for cut in range(len(name) + 1)]:
            found.update([above, ("q",) + above, ("b", "0") + above, ("x", "a") + above, ("new", "q", "q") + above])
    return sorted(found)


def within(zone):
    return [name for name in near(zone) if plainly.under(name, zone.apex)]


def told_in(zone):
    """Return the answers, by the slow reading, to names within a zone."""
    records = zone.records()
    return {(name, kind): plainly.answer(zone.apex, records, name, kind) for name in within(zone) for kind in KINDS}


def some_zones():
    deep = zone_with(("y", "z"), [
        (("a", "b", "c", "y", "z"), "addr", 5, 5), (("*", "c", "y", "z"), "alias", 6, ("y", "z")), (("t", "y", "z"), "tree", 7, ()),
        (("k", "y", "z"), "server", 8, ("n", "k", "y", "z")), (("n", "k", "y", "z"), "addr", 9, 1), (("*", "k", "y", "z"), "addr", 9, 2)])
    apex_tree = zone_with(NET, [(NET, "tree", 9, ("org",)), (NET, "addr", 9, 1)])
    return [shop_zone(), deep, apex_tree, zone_with((), []), zone_with((), [(("*",), "addr", 1, 1)])]


class WordsTest(unittest.TestCase):
    def check(self, zone):
        told = told_in(zone)
        for kind in KINDS:
            sets = {word: with_word(zone, kind, word) for word in WORDS}
            for name in near(zone):
                held = [word for word in WORDS if sets[word].holds(name)]
                self.assertEqual([told[name, kind][0]] if (name, kind) in told else [], held, (name, kind))
            everything = nobody()
            for word in WORDS:
                self.assertEqual(nobody(), meet(everything, sets[word]))
                everything = join(everything, sets[word])
            self.assertEqual(under(zone.apex), everything)

    def test_by_hand(self):
        for zone in some_zones():
            self.check(zone)

    def test_by_chance(self):
        for seed in SEEDS:
            self.check(random_zone(seed))

    def test_sets(self):
        zone = shop_zone()
        self.assertEqual(under(LAB), with_word(zone, "addr", "cut"))
        self.assertEqual(join(below(("old", "net")), below(("moved", "net"))), with_word(zone, "text", "tree"))
        self.assertEqual(join(just([("web", "net")]), below(("al", "net"))), with_word(zone, "mail", "alias"))
        self.assertEqual(just([("www", "net")]), with_word(zone, "text", "found"))
        self.assertEqual([nobody(), nobody()], [with_word(zone, "back", "found"), with_word(zone, "alias", "alias")])
        self.assertEqual(put_under(join(below(("www",)), join(below(("web",)), without(below(("deep",)), just([("a", "deep")])))), NET),
                         with_word(zone, "addr", "absent"))

    def test_least_machine(self):
        self.assertEqual(2, len(with_word(zone_with((), []), "addr", "absent")))
        self.assertEqual(1, len(with_word(zone_with((), []), "addr", "alias")))
        self.assertEqual(4, len(with_word(zone_with(("b", "a"), []), "start", "found")))


class CountedTest(unittest.TestCase):
    ONE_SIGN = [nth_label(index) for index in range(36)]
    TWO_SIGNS = [nth_label(index) for index in range(36, 36 + 1296)]

    def test_small_sizes(self):
        for zone in [random_zone(seed) for seed in range(8)] + some_zones():
            least = size(zone.apex)
            names = [(zone.apex, 0)] + [((label,) + zone.apex, 2) for label in self.ONE_SIGN]
            names.extend([((label,) + zone.apex, 3) for label in self.TWO_SIGNS])
            for kind in ["addr", "alias"]:
                told = [(answer(zone, name, kind)[0], more) for name, more in names]
                for word in WORDS:
                    for more in range(4):
                        self.assertEqual(told.count((word, more)), counted(zone, kind, word, least + more))
                    self.assertEqual([0] * least, [counted(zone, kind, word, number) for number in range(least)])

    def test_all_words_together(self):
        for zone in some_zones():
            for number in [0, 1, 5, 17, 90, 400]:
                many = [counted(zone, "addr", word, number) for word in WORDS]
                self.assertEqual(names_of(number - size(zone.apex) + 1) if number >= size(zone.apex) else 0, sum(many))
                self.assertEqual(many, [count(with_word(zone, "addr", word), number) for word in WORDS])

    def test_forty_names_below_one(self):
        labels = [nth_label(index * 30) for index in range(40)]
        zone = zone_with(NET, [((label, "net"), "addr", 5, 1) for label in labels] + [(("*", "net"), "addr", 5, 1)])
        beneath = nobody()
        for label in labels:
            beneath = join(beneath, below((label, "net")))
        self.assertEqual(beneath, with_word(zone, "addr", "absent"))
        self.assertEqual(without(below(NET), beneath), with_word(zone, "addr", "found"))
        self.assertEqual([36, 1296], [counted(zone, "addr", "found", number) for number in [7, 8]])
        self.assertEqual([36 - 2, 1296 - 38], [count(by_wild(zone, ("*", "net")), number) for number in [7, 8]])


class SetsTest(unittest.TestCase):
    def test_found_with(self):
        for zone in [random_zone(seed) for seed in SEEDS] + some_zones():
            told = told_in(zone)
            for kind, data in {(record[1], record[3]) for record in zone.records()}:
                found = found_with(zone, kind, data)
                for name in near(zone):
                    end = told.get((name, kind), ("none",))
                    self.assertEqual(end[0] == "found" and data in end[2], found.holds(name))
        self.assertEqual(nobody(), found_with(shop_zone(), "addr", 12345))
        self.assertEqual(just([("www", "net")]), found_with(shop_zone(), "addr", 21))
        self.assertEqual(nobody(), found_with(shop_zone(), "addr", 30))

    def test_by_wild(self):
        for zone in [random_zone(seed) for seed in SEEDS] + some_zones():
            for wild in zone.wilds():
                found = by_wild(zone, wild)
                for name in near(zone):
                    decided = source(zone, name) if plainly.under(name, zone.apex) else None
                    self.assertEqual(decided == ("wild", wild), found.holds(name))

    def test_no_wild_names(self):
        zone = shop_zone()
        for name in [NET, ("www", "net"), ("*", "www", "net"), ("*", "deep", "net"), ("*", "lab", "net"), ("*", "q", "net"),
                     ("*", "old", "net"), ("q", "net")]:
            self.assertEqual(nobody(), by_wild(zone, name))
        self.assertEqual(below(("al", "net")), by_wild(zone, ("*", "al", "net")))
        glue = zone.with_records([(("*", "lab", "net"), "addr", 71, 5)])
        self.assertEqual(nobody(), by_wild(glue, ("*", "lab", "net")))

    def test_same_answers(self):
        for zone in [random_zone(seed) for seed in SEEDS] + some_zones():
            told = told_in(zone)
            for name in within(zone)[::4]:
                for kind in ["addr", "alias", "tree"]:
                    found = same_answers(zone, name, kind)
                    wanted = self.plain(told[name, kind])
                    self.assertEqual([other for other in within(zone) if self.plain(told[other, kind]) == wanted],
                                     [other for other in near(zone) if found.holds(other)])

    def plain(self, told):
        """Return an answer; of a tree its word, its age and its owner."""
        return told[:3] if told[0] == "tree" else told

    def test_same_answers_by_hand(self):
        zone = shop_zone()
        self.assertEqual(below(("old", "net")), same_answers(zone, ("x", "y", "old", "net"), "addr"))
        self.assertEqual(under(LAB), same_answers(zone, ("a", "lab", "net"), "start"))
        self.assertEqual(join(just([("web", "net")]), nobody()), same_answers(zone, ("web", "net"), "addr"))
        self.assertEqual(with_word(zone, "back", "absent"), same_answers(zone, ("a", "www", "net"), "back"))
        self.assertEqual(with_word(zone, "back", "empty"), same_answers(zone, ("www", "net"), "back"))


class UnlikeTest(unittest.TestCase):
    def check(self, one, other):
        """Check the first unlike name of two zones, and return it."""
        found = first_unlike(one, other)
        told, other_told = told_in(one), told_in(other)
        names = sorted(set(within(one) + within(other)))
        apart = []
        for name in names:
            records, other_records = one.records(), other.records()
            for kind in KINDS:
                this = told.get((name, kind)) or plainly.answer(one.apex, records, name, kind)
                that = other_told.get((name, kind)) or plainly.answer(other.apex, other_records, name, kind)
                if this != that:
                    apart.append(name)
        self.assertEqual(found is None, are_alike(one, other))
        if found is None:
            self.assertEqual([], apart)
            self.assertIsNone(first_unlike(other, one))
        else:
            name, kind, this, that = found
            self.assertEqual((name, kind, that, this), first_unlike(other, one))
            self.assertNotEqual(this, that)
            self.assertEqual(this, plainly.answer(one.apex, one.records(), name, kind))
            self.assertEqual(that, plainly.answer(other.apex, other.records(), name, kind))
            ahead = KINDS[:KINDS.index(kind)]
            self.assertEqual([answer(one, name, other_kind) for other_kind in ahead], [answer(other, name, other_kind) for other_kind in ahead])
            self.assertEqual(name, first(apart + [name]))
        return found

    def variants(self, zone):
        """Return zones that differ from one in a record, in an age, or in the serial."""
        found = [zone.with_serial(zone.serial + 1), zone.with_records([(("z", "z", "a"), "addr", 7, 1)])]
        for record in zone.records():
            left = [other for other in zone.records() if other != record]
            aged = [(other[0], other[1], other[2] + (other[:2] == record[:2]), other[3]) for other in zone.records()]
            for records in [left, aged]:
                try:
                    found.append(Zone(zone.apex, records))
                except ValueError:
                    pass
        return found

    def test_by_chance(self):
        for seed in range(9):
            zone = random_zone(seed)
            if plainly.under(("z", "z", "a"), zone.apex) and not [
                    cut for cut in zone.cuts() + zone.trees() if plainly.under(("z", "z", "a"), cut)]:
                for other in self.variants(zone):
                    self.check(zone, other)

    def test_other_zones(self):
        zones = [random_zone(seed) for seed in range(30)]
        for apex in [(), ("a",)]:
            alike = [zone for zone in zones if zone.apex == apex][:4]
            for one in alike:
                for other in alike:
                    self.check(one, other)

    def test_equal_zones(self):
        for zone in some_zones():
            self.assertIsNone(self.check(zone, Zone(zone.apex, zone.records()[::-1])))

    def test_serial(self):
        for zone in some_zones():
            name, kind, one, other = self.check(zone, zone.with_serial(9))
            self.assertEqual((zone.apex, "start", "found", "found"), (name, kind, one[0], other[0]))
            self.assertEqual([1, 9], [told[2][0][1] for told in (one, other)])

    def test_ages(self):
        zone = shop_zone()
        other = Zone(NET, [record for record in zone.records() if record[1] != "start"] + [start_at(NET, absent=51)])
        self.assertEqual((NET, "addr", ("empty", 50), ("empty", 51)), self.check(zone, other))

    def test_below_a_wild_name(self):
        wild = (("*", "w"), "addr", 5, 1)
        one = zone_with((), [wild])
        self.assertEqual((("0", "0", "w"), "addr", ("found", 5, (1,)), ("absent", 50)),
                         self.check(one, zone_with((), [wild, (("0", "w"), "addr", 5, 1)])))
        self.assertEqual((("0", "w"), "addr", ("found", 5, (1,)), ("found", 5, (2,))), self.check(one, zone_with((), [(("*", "w"), "addr", 5, 2)])))
        more = zone_with((), [wild, (("k", "w"), "addr", 5, 1), (("*", "k", "w"), "addr", 5, 1)])
        self.assertIsNone(self.check(one, more))
        both = zone_with((), [wild, (("k", "w"), "addr", 5, 1), (("*", "k", "w"), "addr", 6, 1)])
        self.assertEqual((("0", "k", "w"), "addr", ("found", 5, (1,)), ("found", 6, (1,))), self.check(one, both))

    def test_trees(self):
        one, other = zone_with((), [(("t",), "tree", 5, ("a",))]), zone_with((), [(("t",), "tree", 5, ("b",))])
        self.assertEqual((("t",), "tree", ("found", 5, (("a",),)), ("found", 5, (("b",),))), self.check(one, other))
        self.assertEqual((("t",), "addr", ("empty", 50), ("absent", 50)), self.check(one, zone_with((), [])))

    def test_glue(self):
        zone = shop_zone()
        self.assertIsNone(self.check(zone, zone.without([(("other", "lab", "net"), "addr", 71, 31)])))
        found = self.check(zone, zone.without([(("ns", "lab", "net"), "addr", 71, 30)]))
        self.assertEqual((LAB, "addr"), found[:2])

    def test_unlike_apexes(self):
        for call in [first_unlike, are_alike]:
            for one, other in [((), NET), (NET, ()), (NET, ("org",))]:
                with self.assertRaises(OutOfZone) as caught:
                    call(zone_with(one, []), zone_with(other, []))
                self.assertEqual(other, caught.exception.value)


class NeedlessTest(unittest.TestCase):
    def plain(self, zone):
        """Return the needless records, each one taken out alone."""
        found = []
        for record in zone.records():
            try:
                left = zone.without([record])
            except ValueError:
                continue
            if first_unlike(zone, left) is None:
                found.append(record)
        return found

    def crowded(self, seed):
        """Return a zone with more below its cuts."""
        zone = random_zone(seed)
        for cut in zone.cuts():
            for more in [(), ("c", "b"), ("*",)]:
                if not zone.set_at(more + cut, "addr"):
                    zone = zone.with_records([(more + cut, "addr", 7, 1), (more + cut, "addr", 7, 2)][len(more):])
        return zone

    def check(self, zone):
        found = needless(zone)
        self.assertEqual(self.plain(zone), found)
        left = zone
        while len(self.plain(left)) > 0:
            left = left.without(self.plain(left)[-1:])
        self.assertEqual(left, lean(zone))
        self.assertEqual([], needless(lean(zone)))
        self.assertTrue(are_alike(zone, lean(zone)))
        return len(found)

    def test_by_chance(self):
        self.assertGreater(sum([self.check(self.crowded(seed)) for seed in range(24)]), 20)

    def test_wild_names_and_others(self):
        for records in [
                [(("*",), "addr", 5, 1), (("n",), "addr", 5, 1)], [(("*",), "addr", 5, 1), (("n",), "addr", 5, 1), (("*", "n"), "addr", 5, 1)],
                [(("*",), "addr", 5, 1), (("*", "n"), "addr", 5, 1)], [(("*",), "alias", 5, ()), (("n",), "alias", 5, ())],
                [(("*", "n"), "alias", 5, ()), (("k", "n"), "alias", 5, ()), (("*", "k", "n"), "alias", 5, ())]]:
            self.assertEqual(0, self.check(zone_with((), records)))

    def test_by_hand(self):
        zone = shop_zone()
        self.assertEqual([(LAB, "addr", 9, 8), (("other", "lab", "net"), "addr", 71, 31)], needless(zone))
        self.assertEqual(zone.without(needless(zone)), lean(zone))
        self.assertEqual([], needless(zone_with((), [])))


class WrongTest(unittest.TestCase):
    def check(self, error, value, call):
        with self.assertRaises(error) as caught:
            call()
        self.assertEqual(value, caught.exception.value)

    def test_kinds(self):
        zone = shop_zone()
        for value in NOTHING_AT_ALL + ["Addr", "", ("addr",), ["addr"]]:
            for call in [lambda: with_word(zone, value, "no word"), lambda: found_with(zone, value, "no data"),
                         lambda: same_answers(zone, NET, value), lambda: counted(zone, value, "no word", -1)]:
                self.check(InvalidKind, value, call)

    def test_words(self):
        zone = shop_zone()
        for value in NOTHING_AT_ALL + ["Absent", "", "wild", "none", "own", ("found",), ["found"], {"found": 1}]:
            for call in [lambda: with_word(zone, "addr", value), lambda: counted(zone, "addr", value, -1)]:
                self.check(InvalidWord, value, call)

    def test_data(self):
        zone = shop_zone()
        for kind, values in [("addr", [-1, 2 ** 32, True, None, "5", (), [5]]), ("text", [5, "x" * 61, "\n", None, ["a"]]),
                             ("mail", [5, (1,), (1, ("*",)), [1, ("a",)], (True, ("a",))]), ("alias", ["a", ("*", "a"), ["a"], None])]:
            for value in values:
                self.check(InvalidRecord, value, lambda: found_with(zone, kind, value))

    def test_names(self):
        zone = shop_zone()
        for value in NOTHING_AT_ALL + [("*", "*", "net"), ["net"]]:
            self.check(InvalidName, value, lambda: by_wild(zone, value))
            self.check(InvalidName, value, lambda: same_answers(zone, value, "no kind"))
        for value in [("*",), ("*", "net"), ("*", "www", "net")]:
            self.check(InvalidName, value, lambda: same_answers(zone, value, "no kind"))
        for value in [(), ("org",), ("net", "org"), ("xnet",)]:
            self.check(OutOfZone, value, lambda: same_answers(zone, value, "no kind"))
            self.check(OutOfZone, value, lambda: by_wild(zone, value))
        self.check(OutOfZone, ("*",), lambda: by_wild(zone, ("*",)))

    def test_numbers(self):
        for value in [-1, -400, -10 ** 59]:
            self.check(InvalidNumber, value, lambda: counted(shop_zone(), "addr", "found", value))


class LimitsTest(unittest.TestCase):
    def test_60_records_with_12_labels(self):
        names = [tuple([nth_label(index * number) for index in range(12, 0, -1)]) for number in range(7, 65)]
        zone = Zone((), [start_at(()), ((), "server", 60, ("n",))] + [(name, "addr", 5, 1) for name in names])
        self.assertEqual(60, len(zone))
        self.assertEqual(just(names), with_word(zone, "addr", "found"))
        self.assertEqual(len(zone.names()) - 58, sum([count(with_word(zone, "addr", "empty"), number) for number in range(60)]))
        self.assertEqual(names_of(400), counted(zone, "addr", "absent", 400))
        self.assertIsNone(first_unlike(zone, Zone((), zone.records())))
        left = zone.without([(names[5], "addr", 5, 1)])
        gone = first([name for name in zone.names() if not left.has(name)])
        self.assertEqual((gone, "addr", ("empty", 50), ("absent", 50)), first_unlike(zone, left))
        self.assertEqual([], needless(zone))
        self.assertEqual(zone, lean(zone))
        self.assertTrue(with_word(zone, "addr", "absent").holds(("new",) + names[0]))
