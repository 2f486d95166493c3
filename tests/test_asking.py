"""Askings, with logs written down by hand, and against a second reading."""

import unittest

from rootward.asking import ask
from rootward.errors import InvalidForest, InvalidKind, InvalidMachines, InvalidName
from rootward.forests import Forest, faults, homes, plain
from rootward.reach import findable, prices
from tests import plainforests
from tests.sampleforests import NET, NN, NO, ORG, SHOP, WWW, random_forest, shop_forest, shop_zones, zone_of
from tests.samples import NOTHING_AT_ALL

A, B = ("a",), ("b",)
NA, MA, NB = ("n", "a"), ("m", "a"), ("n", "b")


def two_zones(cut_a, cut_b, more_a, more_b, served, roots=(1,), top=()):
    """A forest of the root and the zones a. and b., with the records of their cuts."""
    zones = [zone_of((), ("ns",), list(cut_a) + list(cut_b) + list(top)), zone_of(A, NA, list(more_a)), zone_of(B, NB, list(more_b))]
    return Forest(zones, served, list(roots))


class LogTest(unittest.TestCase):
    def test_example(self):
        forest = shop_forest()
        asked = [(1, ()), (2, NET)]
        inner = [(1, (), NO, "addr"), (1, (), NN, "addr"), (2, NET, NN, "addr"), (2, ORG, NO, "addr")]
        log = [(machine, apex, WWW, "addr") for machine, apex in asked] + inner + [(3, SHOP, WWW, "addr")]
        self.assertEqual((("found", 9, (9,)), log), ask(forest, WWW, "addr"))
        self.assertEqual((("failed", SHOP), log[:-1]), ask(forest, WWW, "addr", up=[1, 2]))
        self.assertEqual((("failed", NET), log[:1]), ask(forest, WWW, "addr", up=[1, 3]))
        self.assertEqual((("failed", ()), []), ask(forest, WWW, "addr", up=[]))
        self.assertEqual((("failed", ()), []), ask(forest, WWW, "addr", up=[2, 3, 77]))
        self.assertEqual(ask(forest, WWW, "addr"), ask(forest, WWW, "addr", up=[0, 1, 2, 3, 77]))

    def test_root_alone(self):
        forest = shop_forest()
        self.assertEqual((("found", 9, (1,)), [(1, (), ("ns",), "addr")]), ask(forest, ("ns",), "addr"))
        self.assertEqual((("empty", 5), [(1, (), ("ns",), "text")]), ask(forest, ("ns",), "text"))
        self.assertEqual((("absent", 5), [(1, (), ("q",), "addr")]), ask(forest, ("q",), "addr", up=None))

    def test_glue_in_sequence(self):
        cut = [(A, "server", 9, NA), (A, "server", 9, MA), (NA, "addr", 9, 5), (NA, "addr", 9, 3), (MA, "addr", 9, 8), (MA, "addr", 9, 4)]
        forest = two_zones(cut, [], [(("x",) + A, "addr", 6, 1)], [], {1: [()], 2: [()], 3: [A], 4: [A], 5: [A], 8: [B]}, (1, 2))
        name = ("x",) + A
        found = ("found", 6, (1,))
        self.assertEqual((found, [(1, (), name, "addr"), (4, A, name, "addr")]), ask(forest, name, "addr"))
        self.assertEqual((found, [(2, (), name, "addr"), (3, A, name, "addr")]), ask(forest, name, "addr", up=[2, 3, 5, 8]))
        self.assertEqual((found, [(1, (), name, "addr"), (5, A, name, "addr")]), ask(forest, name, "addr", up=[1, 5, 8]))
        self.assertEqual((("failed", A), [(1, (), name, "addr")]), ask(forest, name, "addr", up=[1, 8]))

    def test_servers_without_glue(self):
        cut_a = [(A, "server", 9, NB), (A, "server", 9, ("m", "b"))]
        cut_b = [(B, "server", 9, NB), (NB, "addr", 9, 2)]
        more_b = [(NB, "addr", 9, 2), (("m", "b"), "addr", 9, 3), (("m", "b"), "addr", 9, 4)]
        served = {1: [()], 2: [B], 3: [A], 4: [A]}
        forest = two_zones(cut_a, cut_b, [(("x",) + A, "addr", 6, 1)], more_b, served)
        name, host = ("x",) + A, ("m", "b")
        inner = [(1, (), host, "addr"), (2, B, host, "addr")]
        self.assertEqual((("found", 6, (1,)), [(1, (), name, "addr")] + inner + [(3, A, name, "addr")]), ask(forest, name, "addr"))
        self.assertEqual(4, ask(forest, name, "addr", up=[1, 2, 4])[1][-1][0])
        # The first server has addresses, but none that tells the zone; then the next one is asked for.
        lame = [(1, (), NB, "addr"), (2, B, NB, "addr")]
        self.assertEqual((("failed", A), [(1, (), name, "addr")] + inner + lame), ask(forest, name, "addr", up=[1, 2]))
        self.assertEqual((("failed", A), [(1, (), name, "addr"), (1, (), host, "addr"), (1, (), NB, "addr")]), ask(forest, name, "addr", up=[1, 3]))

    def test_glue_goes_ahead_of_servers_without(self):
        cut_a = [(A, "server", 9, ("a", "b")), (A, "server", 9, NA), (NA, "addr", 9, 3)]
        forest = two_zones(cut_a, [(B, "server", 9, NB), (NB, "addr", 9, 2)], [], [(("a", "b"), "addr", 9, 4)], {1: [()], 2: [B], 3: [A], 4: [A]})
        self.assertEqual([(1, ()), (3, A)], [row[:2] for row in ask(forest, ("q", "a"), "addr")[1]])
        self.assertEqual([(1, ()), (1, ()), (2, B), (4, A)], [row[:2] for row in ask(forest, ("q", "a"), "addr", up=[1, 2, 4])[1]])

    def test_rings_of_servers(self):
        cuts = [(A, "server", 9, NB)], [(B, "server", 9, NA)]
        forest = two_zones(*cuts, [(NA, "addr", 9, 2)], [(NB, "addr", 9, 2)], {1: [()], 2: [A, B]})
        name = ("x", "a")
        # Each asking for a server asks for the other one, and that one for the first, which is being asked for.
        self.assertEqual((("failed", A), [(1, (), name, "addr"), (1, (), NB, "addr"), (1, (), NA, "addr")]), ask(forest, name, "addr"))
        self.assertEqual((("failed", B), [(1, (), NB, "addr"), (1, (), NA, "addr")]), ask(forest, NB, "addr"))
        self.assertEqual((("failed", B), [(1, (), NB, "text"), (1, (), NA, "addr")]), ask(forest, NB, "text"))
        own = two_zones([(A, "server", 9, NA)], [], [(NA, "addr", 9, 2)], [], {1: [()], 2: [A]})
        self.assertEqual((("failed", A), [(1, (), name, "addr"), (1, (), NA, "addr")]), ask(own, name, "addr"))
        self.assertEqual((("failed", A), [(1, (), NA, "addr")]), ask(own, NA, "addr"))

    def test_inner_askings_that_do_not_find(self):
        host = ("h", "b")
        cut_b = [(B, "server", 9, NB), (NB, "addr", 9, 2)]
        for record, questions in [((host, "text", 9, "x"), 1), ((("other", "b"), "addr", 9, 3), 1), ((host, "alias", 9, host), 25),
                                  ((host, "alias", 9, ("q", "gone")), None)]:
            forest = two_zones([(A, "server", 9, host)], cut_b, [], [record], {1: [()], 2: [B], 3: [A]}, top=[(("gone",), "server", 9, NB)])
            outcome, log = ask(forest, ("x", "a"), "addr")
            self.assertEqual(("failed", A), outcome)
            self.assertEqual(4 if questions is None else 1 + 2 * questions, len(log))
        found = two_zones([(A, "server", 9, host)], cut_b, [], [(host, "alias", 9, ("k", "b")), (("k", "b"), "addr", 9, 3)], {1: [()], 2: [B], 3: [A]})
        self.assertEqual([(1, ()), (1, ()), (2, B), (1, ()), (2, B), (3, A)], [row[:2] for row in ask(found, ("x", "a"), "addr")[1]])

    def test_moves(self):
        for many in [23, 24, 25, 26]:
            names = [(f"n{index}",) for index in range(many + 1)]
            more = [(one, "alias", 100 - index, other) for index, (one, other) in enumerate(zip(names, names[1:]))] + [(names[-1], "addr", 80, 7)]
            forest = Forest([zone_of((), ("ns",), more)], {1: [()]}, [1])
            outcome, log = ask(forest, names[0], "addr")
            self.assertEqual(("found", min(80, 101 - many), (7,)) if many <= 24 else ("long",), outcome)
            self.assertEqual([(1, (), name, "addr") for name in names[:25]], log)
            self.assertEqual(plain(forest, names[0], "addr")[0], outcome)

    def test_trees(self):
        forest = two_zones([(A, "server", 9, NA), (NA, "addr", 9, 3)], [], [(("y", "a"), "addr", 9, 1)], [], {1: [()], 3: [A]}, top=[(("t",), "tree", 8, A)])
        log = [(1, (), ("y", "t"), "addr"), (1, (), ("y", "a"), "addr"), (3, A, ("y", "a"), "addr")]
        self.assertEqual((("found", 8, (1,)), log), ask(forest, ("y", "t"), "addr"))

    def test_ages_of_cuts_do_not_count(self):
        forest = two_zones([(A, "server", 1, NA), (NA, "addr", 2, 3)], [], [(("x", "a"), "alias", 8, ("y", "a")), (("y", "a"), "addr", 9, 1)], [], {1: [()], 3: [A]})
        self.assertEqual(("found", 8, (1,)), ask(forest, ("x", "a"), "addr")[0])

    def test_cuts_without_zones_and_zones_without_cuts(self):
        forest = two_zones([(A, "server", 9, NA), (NA, "addr", 9, 3)], [], [(("c", "a"), "server", 9, NB)], [], {1: [()], 3: [A], 4: [B]})
        self.assertEqual((("broken", ("c", "a")), [(1, (), ("x", "c", "a"), "addr"), (3, A, ("x", "c", "a"), "addr")]), ask(forest, ("x", "c", "a"), "addr"))
        # No cut leads to b.: the root answers for what is there.
        self.assertEqual((("absent", 5), [(1, (), NB, "addr")]), ask(forest, NB, "addr"))

    def test_inner_askings_are_told_once_more(self):
        forest = Forest(shop_zones(), {1: [()], 2: [NET, ORG], 3: [SHOP]}, [1])
        self.assertEqual(4, len(ask(forest, NO, "addr")[1]))
        self.assertEqual([NO, NN, NN, NO], [row[2] for row in ask(forest, NO, "addr")[1]])


class FactsTest(unittest.TestCase):
    def test_by_chance(self):
        for seed in range(60):
            forest = random_forest(seed)
            slow = plainforests.Plain(forest)
            words = [fault[0] for fault in faults(forest)]
            for up in [None, forest.machines[:3], forest.machines[1:], forest.machines[::2]]:
                machines = forest.machines if up is None else up
                costs = dict(prices(forest, up=up))
                for apex in slow.records:
                    for ahead in [("x",), ("w",), ("n",), ("k", "t")]:
                        name = ahead + apex
                        outcome, log = ask(forest, name, "addr", up=up)
                        self.assertEqual(slow.ask(name, "addr", machines), (outcome, log))
                        self.check_facts(forest, name, up, words, outcome)
                        if "no cut" not in words and outcome[0] != "failed" and len(homes(forest, name, "addr")) == 1 and outcome[0] != "broken":
                            self.assertGreaterEqual(len(log), costs[homes(forest, name, "addr")[0]])

    def check_facts(self, forest, name, up, words, outcome):
        """Facts A2 and A3."""
        read = plain(forest, name, "addr")[0]
        if "no cut" not in words and "no zone" not in words and outcome[0] not in ("failed", "broken"):
            self.assertEqual(read, outcome)
        if "no cut" not in words and read[0] != "broken":
            self.assertEqual(not findable(forest, name, "addr", up=up), outcome[0] == "failed")

    def test_errors(self):
        forest = shop_forest()
        wrong = [[True], [2, 1], [1, 1], (1,), [2 ** 32], [-1], {1: True}, ["1"], [None], 1, "1", [[1]]]
        for value in NOTHING_AT_ALL + [shop_zones()]:
            with self.assertRaises(InvalidForest) as caught:
                ask(value, None, None, up=wrong)
            self.assertEqual(value, caught.exception.value)
        for value in NOTHING_AT_ALL + [("*", "net")]:
            with self.assertRaises(InvalidName) as caught:
                ask(forest, value, None, up=wrong)
            self.assertEqual(value, caught.exception.value)
        for value in NOTHING_AT_ALL:
            with self.assertRaises(InvalidKind) as caught:
                ask(forest, WWW, value, up=wrong)
            self.assertEqual(value, caught.exception.value)
        for value in wrong + [value for value in NOTHING_AT_ALL if value is not None and value != []]:
            with self.assertRaises(InvalidMachines) as caught:
                ask(forest, WWW, "addr", up=value)
            self.assertEqual(value, caught.exception.value)
        with self.assertRaises(TypeError):
            ask(forest, WWW, "addr", None)
