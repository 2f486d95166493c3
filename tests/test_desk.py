"""The desk: each command, each error, and what is as before behind them."""

import random
import unittest

from rootward.desk import Desk
from rootward.errors import InvalidApex, InvalidCommand, InvalidMachines, InvalidText, Nothing, NotReady, TooMany, TreeError, Unfit, UnknownNode
from rootward.failures import stopping
from rootward.forests import Forest
from rootward.labels import show_name
from rootward.reach import block_of, reached
from rootward.textparts import full_data
from rootward.worldruns import age_limit
from rootward.worlds import World
from rootward.worldtexts import show_deeds, show_forest, show_resolvers
from tests.manners import check_refused
from tests.plainworldtexts import read
from tests.sampleforests import NET, NN, NO, ORG, SHOP, WWW, random_forest, shop_forest, shop_zones, zone_of
from tests.samples import NOTHING_AT_ALL, Stranger
from tests.test_worlds import TWO, done, random_resolvers, some_deeds
from tests.test_worldtexts import NODES, SMALL, spoiled

LOAD = "load\n" + show_forest(shop_forest()) + show_resolvers(TWO)
COMMANDS = ["undo", "reached", "clock", "wait 5", "stop 2", "start 2", "ask a www.shop.net. addr", "plain www.shop.net. addr", "block net.", "stop_sets net.", "limit a"]


def loaded(forest=None, resolvers=None):
    desk = Desk()
    assert desk.execute("load\n" + show_forest(forest or shop_forest()) + show_resolvers(resolvers or TWO)) == "ok"
    return desk


def told_by(desk, lines):
    return [desk.execute(line) for line in lines]


class CommandsTest(unittest.TestCase):
    def test_by_hand(self):
        desk = Desk()
        rows = [(LOAD, "ok"), ("clock", "0"), ("ask b www.shop.net. addr", "found 9 9"), ("wait 5", "ok"), ("clock", "5"), ("ask b www.shop.net. addr", "found 4 9"), ("stop 2", "ok"), ("reached", "."),
                ("block org.", "net. shop.net. org."), ("block .", "-"), ("ask a x.org. text", "failed"), ("undo", "ask a x.org. text"), ("undo", "stop 2"), ("reached", ". net. shop.net. org."), ("block org.", "-"),
                ("ask a x.org. text", "absent"), ("ask a ns.org. text", "empty"), ("plain ns.org. text", "empty"), ("plain x.org. text", "absent"), ("plain ns.org. addr", "found 9 3"), ("plain . start", "found 9 ns. 1 2 3 4 5"),
                ("stop_sets shop.net.", "3 1"), ("stop_sets .", "1 1"), ("limit a", "8"), ("limit b", "12"), ("stop 1", "ok"), ("reached", ""), ("block .", ". net. shop.net. org."), ("start 1", "ok"), ("wait 0", "ok"),
                ("undo", "wait 0"), ("undo", "start 1"), ("undo", "stop 1"), ("undo", "ask a ns.org. text"), ("undo", "ask a x.org. text"), ("undo", "ask b www.shop.net. addr"), ("undo", "wait 5"), ("clock", "0"),
                ("undo", "ask b www.shop.net. addr")]
        for line, wanted in rows:
            self.assertEqual(wanted, desk.execute(line), line)
        with self.assertRaises(Nothing) as caught:
            desk.execute("undo")
        self.assertIsNone(caught.exception.value)

    def test_data_of_all_kinds(self):
        more = [(("t",), "text", 5, "a \" \\"), (("t",), "text", 5, ""), (("m",), "mail", 6, (10, ("x", "y"))), (("m",), "mail", 6, (2, ())), (("l",), "alias", 7, ("m",)), (("w",), "tree", 3, NET), (("*", "n"), "addr", 4, 8),
                (("*", "n"), "addr", 4, 7), (("q",), "server", 9, ("ns",)), (("r",), "alias", 3, ("r",))]
        desk = loaded(Forest([zone_of((), ("ns",), more)], {1: [()]}, [1]), {"a": ((0, 60), [None])})
        rows = [("t. text", "found 5 \"\" \"a \\\" \\\\\""), ("m. mail", "found 6 2 . 10 x.y."), ("l. mail", "found 6 2 . 10 x.y."), ("l. alias", "found 7 m."), ("w. tree", "found 3 net."), ("x.n. addr", "found 4 7 8"),
                (". start", "found 9 ns. 1 2 3 4 5"), (". server", "found 9 ns."), ("x.w. addr", "absent"), ("r. addr", "long")]
        for words, wanted in rows:
            self.assertEqual([wanted, wanted], told_by(desk, ["plain " + words, "ask a " + words]))
        self.assertEqual(["broken", "failed"], told_by(desk, ["plain x.q. addr", "ask a x.q. addr"]))

    def test_stop_sets(self):
        for many, machines in [(12, 12), (13, 13)]:
            forest = Forest(shop_zones(), {**{1: [()], 2: [NET, ORG], 3: [SHOP]}, **{100 + at: [] for at in range(machines - 3)}}, [1])
            desk = loaded(forest)
            if many == 12:
                self.assertEqual(["3 1", "2 1"], told_by(desk, ["stop_sets shop.net.", "stop_sets org."]))
            else:
                with self.assertRaises(TooMany) as caught:
                    desk.execute("stop_sets shop.net.")
                self.assertEqual(13, caught.exception.value)
        lame = loaded(Forest(shop_zones(), {1: [()], 2: [NET], 3: [SHOP]}, [1]))
        self.assertEqual(["1"], told_by(lame, ["stop_sets org."]))

    def test_limits(self):
        ring = {"a": ((2, 9), ["b", None]), "b": ((2, 9), ["a"]), "c": ((0, 9), [None])}
        self.assertEqual(["none", "none", "8"], told_by(loaded(shop_forest(), ring), ["limit a", "limit b", "limit c"]))

    def test_against_a_world(self):
        for seed in range(40):
            chance = random.Random(seed)
            forest, resolvers = random_forest(seed), random_resolvers(chance)
            world, desk = World(forest, resolvers), loaded(forest, resolvers)
            for deed in some_deeds(chance, forest, list(resolvers), 20, False):
                line = show_deeds([deed])[:-1]
                told = done(world, deed)
                if isinstance(told, type):
                    with self.assertRaises(told):
                        desk.execute(line)
                else:
                    self.assertEqual("ok" if told is None else line_of(told[0], deed[3]), desk.execute(line))
                self.same(world, desk, chance)
            while len(world) > 0:
                self.assertEqual(show_deeds([world.undo()]), desk.execute("undo") + "\n")

    def same(self, world, desk, chance):
        apex = chance.choice(world.forest.zones).apex
        node, name = chance.choice(list(world.resolvers())), ("w",) + apex
        block, sets = block_of(world.forest, apex, up=world.up), stopping(world.forest, apex)
        wanted = [str(world.clock), names_line(reached(world.forest, up=world.up)), "-" if block is None else names_line(block), " ".join([str(number) for number in [len(sets)] + sets[0]]),
                  str(age_limit(world)[node]).lower(), line_of(world.plainly(name, "addr")[0], "addr")]
        lines = ["clock", "reached", "block " + show_name(apex), "stop_sets " + show_name(apex), "limit " + node, "plain %s addr" % show_name(name)]
        self.assertEqual(wanted, told_by(desk, lines))

    def test_two_desks(self):
        one, other = loaded(), loaded()
        told_by(one, ["wait 5", "stop 2"])
        self.assertEqual([["5", "."], ["0", ". net. shop.net. org."]], [told_by(desk, ["clock", "reached"]) for desk in [one, other]])
        self.assertEqual("ok", one.execute("load\n" + SMALL + NODES))
        self.assertEqual([["0", "."], ["0", ". net. shop.net. org."]], [told_by(desk, ["clock", "reached"]) for desk in [one, other]])
        # The past is forgotten by a load.
        with self.assertRaises(Nothing):
            one.execute("undo")
        with self.assertRaises(NotReady):
            Desk().execute("clock")


def line_of(outcome, kind):
    """The line of an outcome."""
    return outcome[0] if outcome[0] != "found" else " ".join(["found", str(outcome[1])] + [full_data(kind, data) for data in outcome[2]])


def names_line(names):
    return " ".join([show_name(name) for name in names])


class ErrorsTest(unittest.TestCase):
    NO_COMMANDS = [one for one in NOTHING_AT_ALL] + [Stranger(), "", " ", "load", "load ", "Load\n", "load x\n", " load\n", "undo ", " undo", "undo 1", "undo\n", "wait 5\n", "clock\n" + SMALL, "wait", "wait x", "wait 05", "wait -1",
                                                    "wait 5 5", "wait  5", "stop a", "stop 4294967296", "start", "start_again 1", "ask a www.net.", "ask a www.net. add", "ask a www.net addr", "ask a *.net. addr",
                                                    "ask A www.net. addr", "ask abcdefghi www.net. addr", "ask a www.net. addr ", "plain www.net.", "plain www.net addr", "plain *.net. addr", "plain www.net. Addr", "block", "block net",
                                                    "block *.net.", "block net. org.", "stop_sets", "stop_sets net", "stop_sets *.", "limit", "limit A", "limit abcdefghi", "limit a b", "reached .", "x www.net. addr", "x net.", "x a", "clock 1", "change", "change\n",
                                                    "change\n  zone net.\n", "begin", "keep", "drop", "\nload\n", "x\n" + SMALL]

    def test_no_commands(self):
        for desk in [Desk(), loaded()]:
            for value in self.NO_COMMANDS:
                check_refused(self, InvalidCommand, value, lambda: desk.execute(value))

    def test_not_ready(self):
        desk = Desk()
        for line in COMMANDS + ["block zz.", "limit zz", "stop 99", "ask zz . addr"]:
            with self.assertRaises(NotReady) as caught:
                desk.execute(line)
            self.assertIsNone(caught.exception.value)
        with self.assertRaises(InvalidText):
            desk.execute("load\nx")
        with self.assertRaises(NotReady):
            desk.execute("clock")
        self.assertEqual("ok", desk.execute(LOAD))

    def test_errors_of_what_is_done(self):
        desk = loaded()
        told_by(desk, ["wait 5", "stop 2"])
        rows = [("stop 2", Unfit, 2), ("start 1", Unfit, 1), ("stop 9", InvalidMachines, 9), ("start 9", InvalidMachines, 9), ("ask c www.net. addr", UnknownNode, "c"), ("limit c", UnknownNode, "c"),
                ("block com.", InvalidApex, ("com",)), ("stop_sets www.net.", InvalidApex, ("www", "net"))]
        for line, error, value in rows:
            with self.assertRaises(error) as caught:
                desk.execute(line)
            self.assertEqual(value, caught.exception.value)
        self.assertEqual(["5", ".", "stop 2", "wait 5"], told_by(desk, ["clock", "reached", "undo", "undo"]))

    def test_loads_that_fail(self):
        desk = loaded()
        told_by(desk, ["wait 5", "stop 2"])
        head = SMALL[:SMALL.index("roots")]
        rows = [("", 0), (SMALL, 11), (SMALL[:-1], 10), (SMALL + NODES[:-1], 12), (SMALL + "node a 0 60 b\n", 12), (SMALL + "x\n" + NODES, 11), (NODES, 0), (head + NODES, 10), (SMALL + NODES + "\n", 13), (SMALL + NODES + SMALL, 13),
                ("x" + SMALL + NODES, 0), (SMALL + "\n" + NODES, 11), (NODES + SMALL, 0), (SMALL.replace("  . 9 server ns.\n", "") + NODES, 0), (SMALL + "node a 0 60 a\n", 11)]
        for text, wanted in rows:
            with self.assertRaises(InvalidText) as caught:
                desk.execute("load\n" + text)
            self.assertEqual(wanted, caught.exception.value, text)
            self.assertEqual(wanted, read("load", text))
        self.assertEqual(["5", ".", "stop 2", "wait 5"], told_by(desk, ["clock", "reached", "undo", "undo"]))

    def test_each_line_spoiled(self):
        for text in spoiled(SMALL + NODES):
            wanted = read("load", text)
            desk = Desk()
            if isinstance(wanted, int):
                with self.assertRaises(InvalidText) as caught:
                    desk.execute("load\n" + text)
                self.assertEqual(wanted, caught.exception.value, text)
            else:
                self.assertEqual("ok", desk.execute("load\n" + text))

    def test_what_raises_changes_nothing(self):
        for seed in range(10):
            chance = random.Random(seed)
            desk, twin = loaded(), loaded()
            for _ in range(40):
                line = chance.choice(COMMANDS + ["ask b ns.org. addr", "stop 1", "stop 3", "start 1", "start 3", "ask b q. addr", "undo"])
                try:
                    told = desk.execute(line)
                except TreeError:
                    continue
                self.assertEqual(told, twin.execute(line))

    def test_zones_of_a_load_in_any_text(self):
        text = LOAD.replace("  zone net.\n", "  zone net. ; x\n  \n  age 9\n")
        self.assertEqual("ok", Desk().execute(text))
        self.assertEqual("found 9 2", told_by(loaded(), ["ask b %s addr" % show_name(NN)])[0])
        self.assertEqual("found 9 3", told_by(loaded(), ["plain %s addr" % show_name(NO)])[0])
        self.assertEqual("found 9 9", told_by(loaded(), ["ask a %s addr" % show_name(WWW)])[0])
