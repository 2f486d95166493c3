"""Forests, resolvers and deeds as texts, and out of texts."""

import random
import unittest

from rootward.errors import InvalidDeed, InvalidForest, InvalidNet, InvalidText
from rootward.forests import Forest
from rootward.worldreads import read_deeds, read_forest, read_resolvers
from rootward.worldtexts import show_deeds, show_forest, show_resolvers
from rootward.zonetexts import shortest_text
from tests.manners import check_refused
from tests.plainworldtexts import read
from tests.sampleforests import NET, NN, ORG, SHOP, WWW, random_forest, shop_forest, shop_zones, zone_of
from tests.samples import NOTHING_AT_ALL, Stranger, shop_zone
from tests.test_worldruns import NO_DEEDS
from tests.test_worlds import NO_RESOLVERS, TWO, random_resolvers, some_deeds

SMALL = "zone .\n  zone .\n  . 9 server ns.\n  . 9 start ns. 1 2 3 4 5\nzone net.\n  zone net.\n  net. 9 server ns.\n  net. 9 start ns. 1 2 3 4 5\nserves 1 . net.\nserves 7\nroots 1\n"
NODES = "node a 0 60 -\nnode b 5 60 a -\n"
DEEDS = "wait 0\nwait 30\nstop 1\nstart 1\nask a www.net. addr\nask b . start\nchange\n  zone net.\n  net. 9 server ns.\n  net. 9 start ns. 1 2 3 4 5\nwait 5\n"
READERS = {"forest": read_forest, "resolvers": read_resolvers, "deeds": read_deeds}
TEXTS = {"forest": SMALL, "resolvers": NODES, "deeds": DEEDS}


def said(what, text):
    """What a text says as the second reading tells it, or the number of the bad line."""
    try:
        told = READERS[what](text)
    except InvalidText as error:
        return error.value
    if what != "forest":
        return told
    return told.zones, {machine: told.serves(machine) for machine in told.machines}, told.roots


def spoiled(text):
    """Texts in which one line is bad, missing, doubled, or exchanged with the next one, or the end is missing."""
    lines = text.split("\n")[:-1]
    found = [text, text[:-1], text + "\n", text + "x", text + "  ", text + "  \n", "\n" + text, "", "\n", " ", "  ", "x"]
    for at, line in enumerate(lines):
        others = ["", " ", "  ", "  x", "x", line + " ", " " + line, "  " + line, line[2:], line + " .", line + " 1", line + "\r", line.upper(), line[:-1], line.replace(" ", "  ", 1), line + " -", "serves 3 .",
                  "roots 1", "zone .", "zone zz.", "node c 0 1 -", "node z 1 0 -", "change", "wait 1", "zone", "serves", "roots", "node", "ask", line.replace("9", "09"), line.replace("1", "2"), line.replace("net", "org")]
        rows = [lines[:at] + [other] + lines[at + 1:] for other in others]
        rows.extend([lines[:at] + lines[at + 1:], lines[:at + 1] + lines[at:], lines[:at], lines[:at] + lines[at + 1:at + 2] + [line] + lines[at + 2:]])
        rows.extend([lines[:at] + [other] + lines[at:] for other in others])
        for row in rows:
            whole = "".join([one + "\n" for one in row])
            found.extend([whole, whole[:-1]])
    return found


class ShowTest(unittest.TestCase):
    def test_by_hand(self):
        wanted = ["zone .", "  zone .", "  . 9 server ns.", "  . 9 start ns. 1 2 3 4 5", "  net. 9 server ns.net.", "  ns.net. 9 addr 2", "  ns. 9 addr 1", "  org. 9 server ns.net.",
                  "zone net.", "  zone net.", "  net. 9 server ns.net.", "  net. 9 start ns.net. 1 2 3 4 5", "  ns.net. 9 addr 2", "  shop.net. 9 server ns.org.",
                  "zone shop.net.", "  zone shop.net.", "  shop.net. 9 server ns.org.", "  shop.net. 9 start ns.org. 1 2 3 4 5", "  www.shop.net. 9 addr 9",
                  "zone org.", "  zone org.", "  org. 9 server ns.net.", "  org. 9 start ns.net. 1 2 3 4 5", "  ns.org. 9 addr 3", "serves 1 .", "serves 2 net. org.", "serves 3 shop.net.", "roots 1"]
        self.assertEqual("".join([line + "\n" for line in wanted]), show_forest(shop_forest()))
        self.assertEqual("node a 0 60 -\nnode b 5 60 a -\n", show_resolvers({"b": ((5, 60), ["a", None]), "a": ((0, 60), [None])}))
        self.assertEqual("node a 1 1 c - b\nnode b 0 5 a\nnode c 0 5 -\n", show_resolvers({"c": ((0, 5), [None]), "b": ((0, 5), ["a"]), "a": ((1, 1), ["c", None, "b"])}))
        zone = zone_of(NET, NN, [(("*", "net"), "text", 9, "a \" \\ b ;")])
        deeds = [("wait", 10 ** 30), ("change", zone), ("stop", 0), ("start", 2 ** 32 - 1), ("ask", "abcdefgh", (), "text"), ("ask", "a", WWW, "tree")]
        self.assertEqual("wait %d\nchange\n  zone net.\n  net. 9 server ns.net.\n  net. 9 start ns.net. 1 2 3 4 5\n  *.net. 9 text \"a \\\" \\\\ b ;\"\nstop 0\nstart 4294967295\nask abcdefgh . text\n"
                         "ask a www.shop.net. tree\n" % 10 ** 30, show_deeds(deeds))
        self.assertEqual(["", []], [show_deeds([]), read_deeds("")])
        forest = Forest(shop_zones(), {9: [ORG, (), NET], 5: [], 7: [()]}, [7, 9])
        self.assertEqual(["serves 5", "serves 7 .", "serves 9 . net. org.", "roots 7 9"], show_forest(forest).split("\n")[-5:-1])

    def test_there_and_back(self):
        for seed in range(60):
            chance = random.Random(seed)
            forest, resolvers = random_forest(seed), random_resolvers(chance, "abcd")
            deeds = some_deeds(chance, forest, list(resolvers), 20)
            self.assertEqual(forest, read_forest(show_forest(forest)))
            self.assertEqual(resolvers, read_resolvers(show_resolvers(resolvers)))
            self.assertEqual(deeds, read_deeds(show_deeds(deeds)))
            for what, text in [("forest", show_forest(forest)), ("resolvers", show_resolvers(resolvers)), ("deeds", show_deeds(deeds))]:
                self.assertEqual(read(what, text), said(what, text))

    def test_all_kinds_of_data(self):
        root = zone_of((), ("ns",), [(NET, "server", 9, NN)])
        net = shop_zone().with_records([(("d", "net"), kind, 8, data) for kind, data in [("text", "; \" \\ \\\" ;"), ("text", ""), ("mail", (0, ())), ("back", ("x",)), ("addr", 2 ** 32 - 1)]])
        forest = Forest([net, root], {5: [NET], 4: [()]}, [4])
        self.assertEqual(forest, read_forest(show_forest(forest)))
        self.assertEqual([("change", net)], read_deeds(show_deeds([("change", net)])))

    def test_zones_in_any_text(self):
        forest = shop_forest()
        lines = []
        for zone in forest.zones:
            text = shortest_text(zone) + "\n; a remark\n"
            lines.extend(["zone " + ".".join(zone.apex) + "."] + ["  " + line for line in text.split("\n")[:-1]])
        text = "\n".join(lines + show_forest(forest).split("\n")[-5:])
        self.assertEqual(forest, read_forest(text))
        self.assertEqual(forest, read_forest(text.replace("  zone net.\n", "  zone net. ; the zone\n  \n  age 5\n  origin org.\n  origin net.\n")))
        deed = "change\n  zone net.\n  age 60\n  @ start n 1 2 3 4 50\n   server n\n  \n  *.net. 7 addr 5 ; wild\n"
        self.assertEqual([(("*", "net"), "addr", 7, 5)], read_deeds(deed)[0][1].records()[-1:])

    def test_wrong_arguments(self):
        for value in NOTHING_AT_ALL + [Stranger(), shop_zones()]:
            check_refused(self, InvalidForest, value, lambda: show_forest(value))
        for value in NO_RESOLVERS:
            check_refused(self, InvalidNet, value, lambda: show_resolvers(value))
        for value in NO_DEEDS:
            with self.assertRaises(InvalidDeed) as caught:
                show_deeds([("wait", 1), value, None])
            self.assertEqual(1, caught.exception.value)
        for value in NOTHING_AT_ALL:
            if not isinstance(value, list):
                with self.assertRaises(InvalidDeed) as caught:
                    show_deeds(value)
                self.assertEqual(0, caught.exception.value)


class ReadTest(unittest.TestCase):
    def test_what_is_no_text(self):
        for reader in READERS.values():
            for value in NOTHING_AT_ALL + [Stranger(), b"wait 5\n", ["wait 5\n"], 0, None]:
                if not isinstance(value, str):
                    with self.assertRaises(InvalidText) as caught:
                        reader(value)
                    self.assertEqual(0, caught.exception.value)

    def check(self, what, rows):
        for text, wanted in rows:
            self.assertEqual(wanted, said(what, text), text)
            self.assertEqual(wanted, read(what, text), text)

    def test_forests_by_hand(self):
        head = SMALL[:SMALL.index("serves")]
        self.check("forest", [
            ("", 0), ("serves 5\nroots 5\n", 0), ("serves 5\n" + SMALL, 0), ("roots 5\n", 0), ("zone .\n", 0), ("zone net.\n" + head, 0), ("zone .", 0), (head, 8), (head[:-1], 7), (head + "serves 1 .\n", 9), (head + "serves 1 .\nroots 1", 9), (head + "serves 1 .\nroots 2\n", 9),
            (head + "roots 1\n", 8), (head + "serves 1 .\nserves 1 .\n", 9), (head + "serves 1 net. .\n", 8), (head + "serves 1 org.\n", 8), (head + "serves 1 . .\n", 8), (head + "serves 4294967296 .\n", 8),
            (head + "serves 1 .\nroots 1\nroots 1\n", 10), (head + "serves 1 .\nroots 1\n\n", 10), (head + "serves 1 .\nroots 1\n  \n", 10), (head + "serves 1 .\nserves 2\nroots 2 1\n", 10),
            (head + "serves 1 .\nserves 2\nroots 1 1\n", 10), (head + "serves 1 .\nroots\n", 9), (head + "serves 01 .\n", 8), (head + "serves 1 . \n", 8), (SMALL.replace("zone net.\n  zone net.", "zone net.\n  zone org."), 4),
            (SMALL.replace("zone net.\n  zone", "zone *.\n  zone"), 4), (SMALL.replace("zone net.\n  zone", "zone net\n  zone"), 4), (SMALL.replace("  . 9 server ns.\n", ""), 0),
            (SMALL.replace("  net. 9 server ns.\n", "  org. 9 server ns.\n"), 4), (SMALL.replace("  net. 9 server ns.\n", "net. 9 server ns.\n"), 4), (SMALL.replace("  . 9 start", "   9 start"), read("forest", SMALL)),
            (head + "serves 1 .\n" + head, 9), (head + head[head.index("zone net."):] + SMALL[len(head):], 8), ("x" + SMALL, 0), ("  zone .\n" + SMALL, 0), (SMALL + "x", 11), (SMALL[:-1], 10)])

    def test_resolvers_by_hand(self):
        self.check("resolvers", [
            ("", 0), ("node a 0 1 -", 0), ("node a 0 1 -\n\n", 1), ("node a 0 1\n", 0), ("node a 0 0 -\n", 0), ("node a 2 1 -\n", 0), ("node a 0 1 a\n", 0), ("node a 0 1 - -\n", 0), ("node a 0 1 b\n", 1),
            ("node a 0 1 b", 0), ("node b 0 1 a\nnode c 0 1 -\n", 2), ("node b 0 1 -\nnode a 0 1 -\n", 1), ("node a 0 1 -\nnode a 0 1 -\n", 1), ("node abcdefghi 0 1 -\n", 0), ("node A 0 1 -\n", 0),
            ("node a 00 1 -\n", 0), ("node a 0 1  -\n", 0), ("node a 0 1 B\n", 0), ("node a 0 1 b\nnode b 0 1 c\nnode c x\n", 2), ("node a 0 1 b b\nnode b 0 1 -\n", 0), ("node a -1 1 -\n", 0),
            ("node a 0 1 b\nnode b 0 1 -\n", {"a": ((0, 1), ["b"]), "b": ((0, 1), [None])}), (NODES, TWO), ("nodes a 0 1 -\n", 0), ("node a 0 1 b -\nx", 1), ("node a 0 1 b -\nnode b 0 1 -", 1)])

    def test_deeds_by_hand(self):
        zone = "  zone net.\n  net. 9 server ns.\n  net. 9 start ns. 1 2 3 4 5\n"
        told = ("change", zone_of(NET, ("ns",), []))
        self.check("deeds", [
            ("wait 1", 0), ("wait 1\n", [("wait", 1)]), ("wait 01\n", 0), ("wait -1\n", 0), ("wait\n", 0), ("wait 1 2\n", 0), ("stop 4294967296\n", 0), ("stop 4294967295\n", [("stop", 2 ** 32 - 1)]),
            ("start a\n", 0), ("ask a x addr\n", 0), ("ask a *.x. addr\n", 0), ("ask a x. add\n", 0), ("ask aB x. addr\n", 0), ("ask a x.\n", 0), ("change\n", 0), ("change", 0), ("wait 1\nchange\nwait 1\n", 1),
            ("change\n" + zone, [told]), ("change\n" + zone[:-1], 3), ("change\n" + zone + "x\n", 4), ("change net.\n" + zone, 0), (zone, 0), ("wait 1\n" + zone, 1), ("change\n" + zone[:30] + "\nx\n", 0),
            ("change\nchange\n" + zone, 0), ("change\n" + zone + "change\n" + zone, [told, told]), ("change\n" + zone + "\n", 4), ("change\n" + zone + "  \n", [told]), ("undo\n", 0),
            ("wait " + "9" * 60 + "\n", [("wait", 10 ** 60 - 1)]), ("load\n", 0)])
        self.assertEqual(0, said("deeds", "wait " + "9" * 19000 + "\n"))

    def test_each_line_spoiled(self):
        for what, text in TEXTS.items():
            self.assertNotIsInstance(read(what, text), int)
            for other in spoiled(text):
                self.assertEqual(read(what, other), said(what, other), other)

    def test_by_chance(self):
        for seed in range(40):
            chance = random.Random(seed)
            forest, resolvers = random_forest(seed % 20, zones=3), random_resolvers(chance)
            texts = {"forest": show_forest(forest), "resolvers": show_resolvers(resolvers), "deeds": show_deeds(some_deeds(chance, forest, ["a"], 5))}
            for what, text in texts.items():
                for other in chance.sample(spoiled(text), 60):
                    self.assertEqual(read(what, other), said(what, other), other)

    def test_errors_of_a_long_text(self):
        forest = Forest([zone_of((), ("ns",), [(("a" * 20, str(at)), "text", 9, "\\" * 60) for at in range(58)])], {machine: [()] for machine in range(15)}, list(range(15)))
        text = show_forest(forest)
        self.assertEqual(forest, read_forest(text))
        self.assertEqual(len(text.split("\n")) - 2, said("forest", text[:-1]))
