"""Texts of zones: the plain one, and the shortest one against all others."""

import random
import unittest
from itertools import product

from rootward.errors import Unreadable
from rootward.labels import show_name
from rootward.zonereads import read_names, read_zone
from rootward.zones import Zone
from rootward.zonetexts import shortest_size, shortest_text, show_zone
from tests.plaintexts import all_origins, record_lines, shortest, ways_to_write
from tests.samples import DATA, KINDS, random_zone, shop_zone, start_at, zone_with

NET = ("net",)
LABELS = ["a", "b", "cc", "long-label", "net", "origin", "age", "zone"]


def zone_of_chance(seed, many=7):
    """A zone with owners, names in data, ages and an apex that a number decides."""
    chance = random.Random(seed)
    apex = chance.choice([(), NET, ("b", "net"), ("a", "long-label", "net")])
    ages = [7, 60, 3600, 86400][:chance.randrange(1, 5)]

    def name():
        return tuple(chance.choice(LABELS) for _ in range(chance.randrange(4))) + (apex if chance.random() < 0.8 else ())

    zone = Zone(apex, [(apex, "start", chance.choice(ages), (name(), 1, 2, 3, 4, 5)), (apex, "server", chance.choice(ages), name())])
    for _ in range(chance.randrange(many)):
        owner = tuple(chance.choice(LABELS + ["*"] * (not at)) for at in range(chance.randrange(4))) + apex
        kind = chance.choice(["addr", "back", "mail", "text", "addr", "alias"])
        data = {"addr": chance.randrange(3), "mail": (1, name()), "text": chance.choice(["a;b", 'q"\\', ""])}.get(kind, name())
        try:
            zone = zone.with_records([(owner, kind, chance.choice(ages), data)])
        except ValueError:
            pass
    return zone


def all_texts(zone, size):
    """All texts of the form up to a size, with up to two lines ahead of each record."""
    records, origins = zone.records(), all_origins(zone)
    texts = [(f"zone {show_name(zone.apex)}\n", zone.apex, None)]
    for at in range(len(records)):
        further = []
        for _ in range(3):
            further.extend(texts)
            more = [(text + f"age {new}\n", origin, new) for text, origin, _ in texts for new in {record[2] for record in records}]
            for text, origin, age in texts:
                more.extend([(text + f"origin {way}\n", new, age) for new in origins for way in ways_to_write(new, origin)])
            texts = [row for row in more if len(row[0]) <= size]
        texts = [(text + line, origin, age) for text, origin, age in further for line in record_lines(records, at, origin, age)]
        texts = [row for row in texts if len(row[0]) <= size]
    return [text for text, _, _ in texts]


class ShowTest(unittest.TestCase):
    def test_each_kind(self):
        wanted = {
            "addr": ["0", "7", "4294967295"], "alias": [".", "a.", "b.a."], "back": ["a.", "a.b."],
            "mail": ["0 z.", "10 a.", "10 b.", "65535 ."], "server": ["n.a.", "m.b."], "start": None,
            "text": ['""', '" "', '"hi"', '"~"'], "tree": ["a.", "0.b."]}
        for kind in KINDS:
            if kind != "start":
                for data, text in zip(DATA[kind], wanted[kind]):
                    zone = zone_with(NET, [(("x", "net"), kind, 5, data)])
                    last = show_zone(zone).split("\n")[-2]
                    self.assertEqual(f"x.net. 5 {kind} {text}", last)
                    self.assertEqual(zone, read_zone(show_zone(zone)))

    def test_marks(self):
        for text, written in [('"', '"\\""'), ("\\", '"\\\\"'), ('a"b\\c;d', '"a\\"b\\\\c;d"'), (";", '";"'), ('\\"', '"\\\\\\""')]:
            zone = zone_with((), [(("a",), "text", 5, text)])
            self.assertEqual(f"a. 5 text {written}", show_zone(zone).split("\n")[-2])
            self.assertEqual(zone, read_zone(show_zone(zone)))
            self.assertEqual(zone, read_zone(shortest_text(zone)))

    def test_order_and_lines(self):
        zone = shop_zone()
        lines = show_zone(zone).split("\n")
        self.assertEqual(["zone net.", ""], [lines[0], lines[-1]])
        self.assertEqual(len(zone) + 2, len(lines))
        self.assertEqual("net. 60 server n.", lines[1])
        self.assertEqual("net. 60 start n. 1 2 3 4 50", lines[2])
        self.assertEqual("*.net. 40 addr 99", lines[3])
        self.assertEqual([show_name(record[0]) for record in zone.records()], [line.split(" ")[0] for line in lines[1:-1]])

    def test_there_and_back(self):
        for seed in range(150):
            for zone in [random_zone(seed), zone_of_chance(seed)]:
                self.assertEqual(zone, read_zone(show_zone(zone)))
                self.assertEqual(zone.records(), read_zone(show_zone(zone)).records())
                self.assertEqual(zone, read_zone(shortest_text(zone)))
                names = [record[0] for record in zone.records()]
                self.assertEqual([name for at, name in enumerate(names) if name not in names[:at]], read_names(shortest_text(zone)))


class ShortestTest(unittest.TestCase):
    def check(self, zone):
        text = shortest_text(zone)
        self.assertEqual(zone, read_zone(text))
        self.assertEqual(len(text), shortest_size(zone))
        self.assertEqual(shortest(zone), text)

    def test_by_chance(self):
        for seed in range(200):
            self.check(zone_of_chance(seed))

    def test_random_zones(self):
        for seed in range(40):
            self.check(random_zone(seed))

    def test_against_all_texts_of_small_zones(self):
        zones = []
        for apex, host, ages, more in product([(), NET], [("n", "net"), ("net",), ()], [(60, 60), (60, 7), (7, 60)], [None, "*", "x"]):
            records = [start_at(apex, age=ages[0])[:3] + ((host, 1, 2, 3, 4, 5),), (apex, "server", ages[1], host)]
            if more is not None:
                records.append(((more,) + apex, "addr", 60, 5))
            zones.append(Zone(apex, records))
        for zone in zones:
            texts = all_texts(zone, shortest_size(zone))
            self.assertEqual(min(texts, key=lambda text: (len(text), text)), shortest_text(zone))
            for text in texts[:50]:
                self.assertEqual(zone, read_zone(text))

    def test_two_equally_short(self):
        # The root may be written "." or "@" behind the origin ".".
        zone = Zone((), [((), "start", 7, ((), 1, 2, 3, 4, 5)), ((), "server", 8, ())])
        self.assertEqual("zone .\n. 8 server .\n 7 start . 1 2 3 4 5\n", shortest_text(zone))
        self.check(zone)
        # An age line, by which nothing is spared, may stand or not; and it may stand ahead of several records.
        names = [(f"a{index}", "net") for index in range(8)]
        for ages in product([7, 100], repeat=4):
            records = [(name, "addr", age, 1) for name, age in zip(names, ages)]
            self.check(Zone(NET, [start_at(NET, age=100), (NET, "server", 7, ("n",))] + records))
        for ages in [[10000] * 2, [10000, 7, 10000], [10000, 7, 10000, 7, 10000], [7, 10000, 10000, 7]]:
            records = [(name, "addr", age, 1) for name, age in zip(names, ages)]
            self.check(Zone(NET, [start_at(NET, age=8), (NET, "server", 8, ("n",))] + records))

    def test_ends_of_names_as_origins(self):
        deep = ("one-label", "second-label", "third-label", "net")
        for cut in range(5):
            for many in range(1, 5):
                records = [((f"x{index}",) + deep[cut:], "back", 60, (f"y{index}", "net")) for index in range(many)]
                self.check(zone_with(NET, [record for record in records if len(record[0]) > 1]))
        records = [((f"x{index}", "net"), "back", 60, (f"y{index}",) + deep) for index in range(4)]
        self.check(zone_with(NET, records))
        self.check(zone_with(NET, [(name, "mail", 60, (1, name[1:])) for name in [deep[at:] for at in range(3)]]))

    def test_lines_that_look_like_others(self):
        records = [((word, "net"), "addr", 60, 5) for word in ["origin", "age", "zone", "at"]] + [(("5", "net"), "addr", 60, 5)]
        self.check(zone_with(NET, records))

    def test_wild_owners(self):
        self.check(zone_with(NET, [(("*", "net"), "addr", 60, 5), (("*", "a-long-label", "net"), "addr", 60, 5),
                                   (("b", "a-long-label", "net"), "addr", 60, 5)]))
        self.assertIn("\n* addr 5\n", shortest_text(zone_with(NET, [(("*", "net"), "addr", 60, 5)])))

    def test_sixty_records(self):
        chance = random.Random(5)
        names = [tuple([f"l{chance.randrange(90)}" * chance.randrange(1, 5) for _ in range(12)]) for _ in range(120)]
        zone = zone_with((), [(names[at], "back", 1000 + at, names[at + 60]) for at in range(58)])
        self.assertEqual([60, zone], [len(zone), read_zone(shortest_text(zone))])
        end = tuple([f"label{at}" for at in range(10)])
        zone = zone_with((), [((f"x{at}",) + end[at % 10:], "back", 1000 + at % 7, (f"y{at}",) + end[at * 7 % 10:]) for at in range(58)])
        self.assertEqual(zone, read_zone(shortest_text(zone)))
        self.assertLess(shortest_size(zone), 2400)
        self.check(zone_with((), [((f"x{at}",) + end[at % 3:4], "back", 60 + at % 2, (f"y{at}",) + end[2:4]) for at in range(9)]))

    def test_show_is_of_the_form(self):
        for seed in range(40):
            zone = zone_of_chance(seed)
            self.assertLessEqual(shortest_size(zone), len(show_zone(zone)))
            with self.assertRaises(Unreadable):
                read_zone(shortest_text(zone)[:-1])
