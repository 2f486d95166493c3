"""The whole program: one forest and one history of it, told by each way, with the same answers."""

import random
import unittest

from rootward.answers import answer, answers, reply
from rootward.asking import ask
from rootward.changes import back, changed, changed_zone
from rootward.desk import Desk
from rootward.forests import Forest, faults, home, plain
from rootward.gaps import gaps, shown
from rootward.journals import brought, caught_up, difference, put_together, turned_back
from rootward.messages import question, replied, told_of
from rootward.moves import Moves, chase, moves_of
from rootward.questions import asked_for
from rootward.records import records_of
from rootward.serials import newer
from rootward.transfers import Gathered, pieces, zone_behind
from rootward.wirereads import same_message, unpacked
from rootward.wires import packed, plain_bytes
from rootward.worldreads import read_deeds, read_forest
from rootward.worldruns import played
from rootward.worlds import World
from rootward.worldtexts import show_deeds, show_forest, show_resolvers
from rootward.zonenames import are_alike
from rootward.zonereads import read_zone
from rootward.zones import Zone
from rootward.zonetexts import shortest_text, show_zone
from tests.plainforests import Plain
from tests.samples import KINDS
from tests.test_desk import line_of

NET, SHOP, LAB = ("net",), ("shop", "net"), ("lab", "shop", "net")
NAMES = [(), NET, SHOP, LAB, ("www",) + SHOP, ("web",) + SHOP, ("x", "y") + SHOP, ("old",) + SHOP, ("web", "old") + SHOP, ("ns",) + LAB, ("x",) + LAB, ("ns", "net"), ("zz",), ("x", "www") + SHOP, ("a", "deep") + SHOP, ("deep",) + SHOP]
RESOLVERS = {"a": ((0, 60), [None]), "b": ((5, 60), ["a", None])}


def start(apex, host, serial):
    return (apex, "start", 30, (host, serial, 1200, 300, 90000, 20))


def zones_at(serial):
    """The zones of a forest with glue, cuts, moves and wild names; the serial of the shop says what it has."""
    www, lab = ("www",) + SHOP, ("ns",) + LAB
    root = [start((), ("ns",), 1), ((), "server", 30, ("ns",)), (("ns",), "addr", 30, 1), (NET, "server", 30, ("ns", "net")), (("ns", "net"), "addr", 30, 2)]
    net = [start(NET, ("ns", "net"), 1), (NET, "server", 30, ("ns", "net")), (("ns", "net"), "addr", 30, 2), (SHOP, "server", 30, ("ns", "net"))]
    shop = [start(SHOP, ("ns", "net"), serial), (SHOP, "server", 30, ("ns", "net")), (www, "addr", 12, 20), (www, "text", 9, "hi \" \\ ;"), (("web",) + SHOP, "alias", 11, www), (("*",) + SHOP, "mail", 10, (5, www)),
            (LAB, "server", 30, lab), (lab, "addr", 30, 3), (("old",) + SHOP, "tree", 8, SHOP), (("a", "deep") + SHOP, "back", 7, ())]
    inner = [start(LAB, lab, 1), (LAB, "server", 30, lab), (lab, "addr", 30, 3), (("x",) + LAB, "addr", 10, 30)]
    more = {2: [(www, "addr", 12, 21)], 3: [(www, "addr", 12, 21), (("new",) + SHOP, "alias", 6, ("web",) + SHOP)], 4: [(("new",) + SHOP, "alias", 6, ("web",) + SHOP), (("*", "www") + SHOP, "addr", 5, 9)]}
    return [((), root), (NET, net), (SHOP, shop + more.get(serial, [])), (LAB, inner)]


def forest_at(serial):
    return Forest([Zone(apex, records) for apex, records in zones_at(serial)], {1: [()], 2: [NET, SHOP], 3: [LAB]}, [1])


class WholeTest(unittest.TestCase):
    SERIALS = [1, 2, 3, 4]

    def setUp(self):
        self.forests = {serial: forest_at(serial) for serial in self.SERIALS}
        self.shops = {serial: forest.zone(SHOP) for serial, forest in self.forests.items()}
        self.told = {(serial, name, kind): plain(forest, name, kind) for serial, forest in self.forests.items() for name in NAMES for kind in KINDS}

    def same(self, serial, zone):
        """A zone that came by some way is that of its serial, for all names."""
        self.assertEqual(self.shops[serial], zone)
        self.assertTrue(are_alike(self.shops[serial], zone))
        for name in NAMES:
            if name[-2:] == SHOP:
                self.assertEqual(answers(self.shops[serial], name), answers(zone, name))

    def test_the_history_is_one(self):
        self.assertEqual([[]] * 4, [faults(forest) for forest in self.forests.values()])
        self.assertTrue(all([newer(serial + 1, serial) and not are_alike(self.shops[serial], self.shops[serial + 1]) for serial in [1, 2, 3]]))
        words = {outcome[0] for outcome, _ in self.told.values()}
        self.assertEqual({"found", "empty", "absent"}, words)

    def test_texts(self):
        for serial, zone in self.shops.items():
            self.same(serial, read_zone(show_zone(zone)))
            self.same(serial, read_zone(shortest_text(zone)))
            self.same(serial, read_forest(show_forest(self.forests[serial])).zone(SHOP))
            self.same(serial, read_deeds(show_deeds([("change", zone)]))[0][1])

    def test_differences_and_changes(self):
        journal = [difference(self.shops[serial], self.shops[serial + 1]) for serial in [1, 2, 3]]
        for old in self.SERIALS:
            for new in self.SERIALS:
                direct = difference(self.shops[old], self.shops[new])
                self.same(new, brought(self.shops[old], direct))
                self.same(old, brought(self.shops[new], turned_back(direct)))
                if old < new:
                    self.same(new, caught_up(self.shops[old], journal, new))
                    self.assertEqual(direct, put_together(journal[old - 1:new - 1]))
        for serial in [1, 2, 3]:
            _, _, taken, added = difference(self.shops[serial], self.shops[serial + 1])
            deeds = [("take", name, kind, data) for name, kind, _, data in taken if kind != "start"] + [("add", record) for record in added if record[1] != "start"]
            # A change of other records leads the serial one further.
            self.same(serial + 1, changed_zone(self.shops[serial], ([], deeds)))
            records = self.shops[serial].records()
            behind = records_of(changed(records, ([], deeds)))
            self.assertEqual(records, records_of(changed(behind, back(records, ([], deeds)))))

    def test_pieces(self):
        chance = random.Random(7)
        for serial, zone in self.shops.items():
            for size in [1, 3, 60]:
                gathered, parts = Gathered(), pieces(zone.records(), size)
                while gathered.load() is None:
                    gathered.take(chance.choice(parts))
                self.same(serial, zone_behind(self.shops[1], gathered.load()))

    def test_bytes(self):
        for serial, zone in self.shops.items():
            for name in NAMES:
                for kind in KINDS:
                    if name[-2:] == SHOP:
                        message = replied(zone, question(serial, name, kind, False))
                        self.assertEqual(message, unpacked(packed(message)))
                        self.assertTrue(same_message(packed(message), plain_bytes(message)))
                        self.assertEqual(reply(zone, name, kind), unpacked(packed(message))[2:3] + message[4:])
                        outcome, names = self.told[serial, name, kind]
                        inside = all([home(self.forests[serial], one) == SHOP for one in names])
                        if inside:
                            self.assertEqual(outcome[2] if outcome[0] == "found" else None, told_of(message, name, kind))

    def test_gaps_and_moves(self):
        for serial, zone in self.shops.items():
            book = moves_of([zone])
            self.assertIsInstance(book, Moves)
            for name in NAMES:
                if home(self.forests[serial], name) == SHOP:
                    word = answer(zone, name, "addr")[0]
                    self.assertEqual(word == "absent", shown(SHOP, gaps(zone), name, "addr") == "absent")
                    names = self.told[serial, name, "text"][1]
                    if all([home(self.forests[serial], one) == SHOP for one in names]):
                        self.assertEqual(names, chase(book, name, 25)[:len(names)])

    def test_askers(self):
        for serial, forest in self.forests.items():
            second = Plain(forest)
            for (at, name, kind), wanted in self.told.items():
                if at == serial:
                    self.assertEqual(wanted, second.chase(name, kind))
                    self.assertEqual(wanted[0], ask(forest, name, kind)[0])
                    self.assertEqual((0, wanted[0]) if wanted[0][0] == "found" else None, asked_for((0, []), forest, name, kind))

    def test_worlds_and_desks(self):
        world = World(self.forests[1], RESOLVERS)
        for serial, forest in self.forests.items():
            world.change(self.shops[serial])
            desk = Desk()
            self.assertEqual("ok", desk.execute("load\n" + show_forest(world.forest) + show_resolvers(RESOLVERS)))
            self.assertEqual(forest, world.forest)
            # Behind the limit of all ages each step is one of the zones now.
            world.wait(1000)
            for (at, name, kind), wanted in self.told.items():
                if at == serial:
                    self.check_told(world, desk, (name, kind), wanted)
        again, answered = played(World(self.forests[1], RESOLVERS), read_deeds(show_deeds(world.deeds)))
        self.assertEqual(world, again)
        self.assertEqual([wanted[1] for wanted in self.told.values() for _ in "ab"], [names for _, names in answered])

    def check_told(self, world, desk, asked, wanted):
        outcome, names = wanted
        self.assertEqual(wanted, world.plainly(*asked))
        for node in RESOLVERS:
            told = world.ask(node, *asked)
            self.assertEqual((outcome[0], outcome[2:], names), (told[0][0], told[0][2:], told[1]))
        words = ".".join(asked[0]) + ". " + asked[1]
        self.assertEqual(line_of(outcome, asked[1]), desk.execute("plain " + words))
        self.assertEqual(outcome[0], desk.execute("ask b " + words).split(" ")[0])
