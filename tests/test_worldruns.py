"""Scripts of worlds, and limits of ages."""

import random
import unittest

from rootward.chains import greatest_stale
from rootward.deeds import is_deed
from rootward.errors import InvalidDeed
from rootward.forests import Forest
from rootward.worldruns import age_limit, first_stale, played, same_answers
from rootward.worlds import World
from tests.sampleforests import NET, NN, NO, ORG, SHOP, WWW, random_forest, shop_forest, shop_zones, zone_of
from tests.samples import NOTHING_AT_ALL
from tests.test_caches import NO_MOMENTS
from tests.test_worlds import ONE, TWO, done, random_resolvers, some_deeds

NO_DEEDS = [one for one in NOTHING_AT_ALL] + [(), ("wait",), ("wait", 1, 2), ["wait", 1], ("wait", True), ("start_again", 1), ("stop", "1"), ("ask", "a", WWW), ("ask", "a", WWW, "addr", 1), ("undo",),
                                             ("ask", "a", ("*",), "addr"), ("ask", "A", WWW, "addr"), ("ask", "a", WWW, "a"), ("change", NET), ("change", 1), ("stop", -1), ("start", 2 ** 32), ("WAIT", 1), (["wait"], 1)]
NO_DEEDS.extend([("wait", value) for value in NO_MOMENTS] + [(word, value) for word in ["stop", "start", "change"] for value in NOTHING_AT_ALL])
NO_DEEDS.extend([deed for value in NOTHING_AT_ALL for deed in [("ask", value, WWW, "addr"), ("ask", "a", value, "addr"), ("ask", "a", WWW, value), (value, 1)]])
# Deeds that some worlds can do, but not that of the example with the machine 2 down.
CANNOT = [("stop", 2), ("stop", 9), ("start", 1), ("start", 9), ("ask", "c", WWW, "addr"), ("change", zone_of(("com",), NN, []))]


class PlayedTest(unittest.TestCase):
    def test_against_deeds_one_by_one(self):
        for seed in range(60):
            chance = random.Random(seed)
            forest, resolvers = random_forest(seed), random_resolvers(chance)
            world, script, answers = World(forest, resolvers), [], []
            for deed in some_deeds(chance, forest, list(resolvers), 20):
                told = done(world, deed)
                if not isinstance(told, type):
                    script.append(deed)
                    answers.extend([told] if told is not None else [])
            begun = World(forest, resolvers)
            behind, told = played(begun, script)
            self.assertEqual((world, answers, script), (behind, told, behind.deeds))
            self.assertEqual([world.held(node) for node in resolvers], [behind.held(node) for node in resolvers])
            self.assertEqual(0, len(begun))
            # Half of it behind the other half, by twins with a past.
            half = played(begun, script[:7])[0]
            half.begin()
            rest, more = played(half, script[7:])
            self.assertEqual((world, 0), (rest, rest.depth))
            self.assertEqual(answers[len(answers) - len(more):], more)
            self.assertEqual(script[:7], half.deeds)
        self.assertEqual((world, []), played(world, []))

    def test_entries_that_are_none(self):
        world = World(shop_forest(), ONE)
        world.stop(2)
        good = [("wait", 1), ("ask", "a", NN, "addr"), ("start", 2), ("stop", 2)]
        for value in NO_DEEDS + CANNOT:
            for at in range(5):
                for call in [lambda script: played(world, script), lambda script: same_answers(world, world, script), lambda script: first_stale(world, script)]:
                    if at == 3 and value == ("stop", 2):
                        continue
                    with self.assertRaises(InvalidDeed) as caught:
                        call(good[:at] + [value, None])
                    self.assertEqual(at, caught.exception.value)
            self.assertEqual([("stop", 2)], world.deeds)
        for value in NOTHING_AT_ALL:
            if not isinstance(value, list):
                for call in [lambda: played(world, value), lambda: same_answers(world, world, value), lambda: first_stale(world, value)]:
                    with self.assertRaises(InvalidDeed) as caught:
                        call()
                    self.assertEqual(0, caught.exception.value)
        self.assertTrue(all([is_deed(deed) for deed in good + CANNOT]))
        self.assertFalse(any([is_deed(value) for value in NO_DEEDS]))

    def test_same_answers(self):
        one, other = World(shop_forest(), TWO), World(shop_forest(), {"a": ((0, 60), [None]), "b": ((0, 60), ["a", None])})
        script = [("ask", "a", WWW, "addr"), ("wait", 6), ("ask", "b", WWW, "addr")]
        self.assertEqual([True, False, True], [same_answers(one, other, script[:2]), same_answers(one, other, script), same_answers(one, one, script)])
        self.assertEqual([True, True], [same_answers(one, other, []), same_answers(one, other, [("wait", 5), ("stop", 2), ("ask", "a", WWW, "addr")])])
        # The first entry that cannot be done in one of both is told, whichever of them it is.
        lower = World(shop_forest(), ONE)
        script = [("wait", 1), ("ask", "b", NN, "addr"), ("stop", 1), ("stop", 1)]
        for worlds in [(one, lower), (lower, one)]:
            with self.assertRaises(InvalidDeed) as caught:
                same_answers(*worlds, script)
            self.assertEqual(1, caught.exception.value)
        self.assertEqual([0, 0, 0], [len(world) for world in [one, other, lower]])
        names = World(Forest(shop_zones()[:3] + [zone_of(SHOP, NO, [(WWW, "alias", 9, NN)])], {1: [()], 2: [NET, ORG], 3: [SHOP]}, [1]), ONE)
        self.assertFalse(same_answers(lower, names, [("ask", "a", WWW, "addr")]))


class StaleTest(unittest.TestCase):
    def test_by_hand(self):
        world = World(shop_forest(), ONE)
        new = zone_of(SHOP, NO, [(WWW, "addr", 9, 10)])
        without = zone_of(SHOP, NO, [])
        script = [("ask", "a", WWW, "addr"), ("change", new), ("wait", 8), ("ask", "a", WWW, "addr"), ("wait", 1), ("ask", "a", WWW, "addr")]
        self.assertEqual([3, None, None], [first_stale(world, script), first_stale(world, script[:3]), first_stale(world, script[:3] + script[4:])])
        self.assertEqual(3, first_stale(world, [("ask", "a", WWW, "addr"), ("change", without), ("wait", 3), ("ask", "a", WWW, "addr")]))
        # An answer that there is nothing is stale, too.
        begun = World(Forest(shop_zones()[:3] + [without], {1: [()], 2: [NET, ORG], 3: [SHOP]}, [1]), ONE)
        self.assertEqual([2, 2], [first_stale(begun, [("ask", "a", WWW, "addr"), ("change", new), ("ask", "a", WWW, kind)]) for kind in ["addr", "text"]])
        # What failed is passed over, and ages say nothing.
        self.assertIsNone(first_stale(world, [("stop", 2), ("ask", "a", WWW, "addr"), ("start", 2), ("ask", "a", WWW, "addr"), ("wait", 4), ("ask", "a", WWW, "addr")]))
        self.assertIsNone(first_stale(world, [("ask", "a", WWW, "addr"), ("change", zone_of(SHOP, NO, [(WWW, "addr", 3, 9)])), ("ask", "a", WWW, "addr")]))

    def test_errors_go_ahead(self):
        world = World(shop_forest(), ONE)
        script = [("ask", "a", WWW, "addr"), ("change", zone_of(SHOP, NO, [])), ("ask", "a", WWW, "addr")]
        self.assertEqual(2, first_stale(world, script))
        with self.assertRaises(InvalidDeed) as caught:
            first_stale(world, script + [("stop", 77)])
        self.assertEqual(3, caught.exception.value)

    def test_long_and_broken(self):
        ring = Forest([zone_of((), ("ns",), [(("m",), "alias", 9, ("m",)), (("q",), "server", 9, ("ns",)), (("r",), "alias", 2, ("n",)), (("n",), "addr", 9, 1)])], {1: [()]}, [1])
        world = World(ring, ONE)
        self.assertIsNone(first_stale(world, [("ask", "a", ("m",), "addr"), ("ask", "a", ("q",), "addr")]))
        other = zone_of((), ("ns",), [(("m",), "addr", 9, 1), (("n",), "server", 9, ("ns",))])
        self.assertIsNone(first_stale(world, [("ask", "a", ("m",), "addr"), ("change", other), ("ask", "a", ("m",), "addr")]))
        # What is told while the plain reading is broken by now is stale.
        self.assertEqual(2, first_stale(world, [("ask", "a", ("n",), "addr"), ("change", other), ("ask", "a", ("n",), "addr")]))
        self.assertEqual(2, first_stale(World(Forest([other], {1: [()]}, [1]), ONE), [("ask", "a", ("m",), "addr"), ("change", ring.zone(())), ("ask", "a", ("m",), "addr")]))

    def test_by_chance(self):
        for seed in range(60):
            chance = random.Random(seed)
            forest, resolvers = random_forest(seed), random_resolvers(chance)
            world, script, stale = World(forest, resolvers), [], []
            for deed in some_deeds(chance, forest, list(resolvers), 20):
                told = done(world, deed)
                if not isinstance(told, type):
                    if told is not None and told[0][0] not in ("failed", "long"):
                        wanted = world.plainly(*deed[2:])[0]
                        stale.extend([len(script)] if (wanted[0], wanted[2:]) != (told[0][0], told[0][2:]) else [])
                    script.append(deed)
            self.assertEqual(stale[0] if stale else None, first_stale(World(forest, resolvers), script))


class LimitsTest(unittest.TestCase):
    def test_by_hand(self):
        world = World(shop_forest(), {"b": ((5, 60), ["a", None]), "a": ((0, 60), [None])})
        self.assertEqual({"a": 8, "b": 12}, age_limit(world))
        world.change(zone_of(SHOP, NO, [(WWW, "addr", 40, 9)]))
        self.assertEqual({"a": 39, "b": 43}, age_limit(world))
        world.change(zone_of(SHOP, NO, []))
        self.assertEqual({"a": 39, "b": 43}, age_limit(world))
        self.assertEqual(world.deeds[::-1], [world.undo(), world.undo()])
        # A change that was taken back does not count.
        self.assertEqual({"a": 8, "b": 12}, age_limit(world))
        world.begin()
        world.change(zone_of(SHOP, NO, [(WWW, "addr", 10 ** 6, 9)]))
        self.assertEqual({"a": 59, "b": 63}, age_limit(world.twin()))
        world.drop()
        self.assertEqual({"a": 8, "b": 12}, age_limit(world))
        self.assertEqual({"a": 9}, age_limit(World(Forest([zone_of((), ("ns",), [(("x",), "addr", 10, 1)])], {1: [()]}, [1]), ONE)))

    def test_rings(self):
        ring = {"a": ((0, 9), ["b", None]), "b": ((0, 9), ["a", None]), "c": ((3, 9), ["a", "b"])}
        self.assertEqual({"a": 8, "b": 8, "c": 10}, age_limit(World(shop_forest(), ring)))
        floors = {"a": ((2, 9), ["b", None]), "b": ((2, 9), ["a"]), "c": ((3, 9), [None])}
        self.assertEqual({"a": None, "b": None, "c": 8}, age_limit(World(shop_forest(), floors)))
        nobody = {"a": ((2, 9), ["b"]), "b": ((2, 9), ["a"])}
        self.assertEqual({"a": 0, "b": 0}, age_limit(World(shop_forest(), nobody)))

    def test_by_chance(self):
        for seed in range(80):
            chance = random.Random(seed)
            forest, resolvers = random_forest(seed), random_resolvers(chance, "abcd")
            net = {node: (policy, 0, sorted(ups, key=lambda up: up or "")) for node, (policy, ups) in resolvers.items()}
            age = max([record[2] for zone in forest.zones for record in zone.records()])
            self.assertEqual({node: greatest_stale(net, node, age) for node in net}, age_limit(World(forest, resolvers)))
