"""Worlds: asks by hand and against a second reading, deeds, undo, blocks, twins."""

import random
import unittest

from rootward.answers import answer
from rootward.chains import greatest_stale
from rootward.errors import InvalidForest, InvalidKind, InvalidMachines, InvalidName, InvalidNet, InvalidNumber, InvalidZone, NoBlock, Nothing, OutOfZone, TreeError, Unfit, UnknownNode
from rootward.forests import Forest, faults, home, plain
from rootward.worldruns import age_limit
from rootward.worlds import World
from tests.manners import check_refused, seen
from tests.plainworlds import PlainWorld
from tests.sampleforests import NET, NN, ORG, SHOP, WWW, random_forest, shop_forest, shop_zones, zone_of
from tests.samples import NOTHING_AT_ALL, Stranger
from tests.test_caches import NO_MOMENTS, NO_POLICIES
from tests.test_chains import NO_NODES
from tests.test_failures import calls_of

ONE = {"a": ((0, 60), [None])}
TWO = {"a": ((0, 60), [None]), "b": ((5, 60), ["a", None])}
NO_RESOLVERS = [one for one in NOTHING_AT_ALL] + [{**TWO, "c": ((0, 1), ["d"])}, {**TWO, "c": ((0, 1), ["c"])}, {**TWO, "c": ((0, 1), ["a", "a"])}, {**TWO, "c": ((0, 1), [None, None])}, {**TWO, "c": ((0, 1), [])},
                                                 {**TWO, "c": ((0, 1), (None,))}, {**TWO, "c": ((0, 1), 0, [None])}, {**TWO, "c": [(0, 1), [None]]}, {**TWO, "C": ((0, 1), [None])}, {**TWO, 1: ((0, 1), [None])},
                                                 {"": ((0, 1), [None])}, {**TWO, "a" * 9: ((0, 1), [None])}, {**TWO, None: ((0, 1), [None])}, list(TWO.items())]
for _value in NOTHING_AT_ALL:
    NO_RESOLVERS.extend([{**TWO, "c": _value}, {**TWO, "c": (_value, [None])}] if _value != (1, 2) else [])
    NO_RESOLVERS.extend([{**TWO, "c": ((0, 1), _value)}] if _value != ["a"] else [])
    NO_RESOLVERS.extend([{**TWO, "c": ((0, 1), ["a", _value])}] if _value is not None else [])
NO_RESOLVERS.extend([{**TWO, "c": (value, [None])} for value in NO_POLICIES])


def random_resolvers(chance, nodes="abc"):
    """A net of resolvers that chance decides."""
    net = {}
    for node in nodes[:chance.randrange(1, len(nodes) + 1)]:
        others = [other for other in nodes if other in net or chance.random() < 0.6]
        net[node] = others
    for node in list(net):
        ups = [other for other in net[node] if other in net and other != node] + [None] * (chance.random() < 0.7)
        chance.shuffle(ups)
        floor = chance.choice([0, 0, 2, 5])
        net[node] = ((floor, max(1, floor + chance.randrange(9))), ups or [None])
    return net


def names_at(forest):
    """Names that are worth an ask."""
    apexes = [zone.apex for zone in forest.zones]
    return [name for apex in apexes for name in [apex, ("w",) + apex, ("t",) + apex, ("x",) + apex, ("x", "t") + apex, ("n",) + apex, ("y", "q") + apex, ("z", "x") + apex]]


def some_deeds(chance, forest, nodes, many, changes=True):
    """Deeds that chance decides; some of them cannot be done."""
    names, found = names_at(forest), []
    for _ in range(many):
        word = chance.choice(["ask"] * 6 + ["wait"] * 3 + ["stop", "start"] + ["change"] * changes)
        if word == "ask":
            found.append((word, chance.choice(nodes), chance.choice(names), chance.choice(["addr", "addr", "text", "alias", "server"])))
        elif word == "wait":
            found.append((word, chance.choice([0, 1, 2, 3, 9])))
        elif word == "change":
            other = random_forest(chance.randrange(300))
            zone = chance.choice(forest.zones)
            zones = [one for one in other.zones if one.apex == zone.apex]
            found.append((word, chance.choice(zones + [zone, zone.with_serial(chance.randrange(9))])))
        else:
            found.append((word, chance.choice(forest.machines)))
    return found


def done(world, deed):
    """What a deed of a world tells, or the class of its error."""
    calls = {"wait": world.wait, "change": world.change, "stop": world.stop, "start": world.start_again, "ask": world.ask}
    try:
        return calls[deed[0]](*deed[1:])
    except TreeError as error:
        return error.__class__


class AsksTest(unittest.TestCase):
    def test_one_node(self):
        world = World(shop_forest(), ONE)
        self.assertEqual((("found", 9, (9,)), [WWW]), world.ask("a", WWW, "addr"))
        self.assertEqual([(("found", WWW, "addr", 9, (9,)), 0, 9)], world.held("a"))
        self.assertIsNone(world.wait(8))
        self.assertEqual((("found", 1, (9,)), [WWW]), world.ask("a", WWW, "addr"))
        world.wait(1)
        self.assertEqual([], world.held("a"))
        world.stop(2)
        self.assertEqual((("failed",), [WWW]), world.ask("a", WWW, "addr"))
        self.assertEqual((("found", 9, (1,)), [("ns",)]), world.ask("a", ("ns",), "addr"))
        self.assertEqual((("absent", 5), [("q",)]), world.ask("a", ("q",), "addr"))
        self.assertEqual((("absent", 5), [("x", "q")]), world.ask("a", ("x", "q"), "mail"))
        self.assertEqual((("empty", 5), [("ns",)]), world.ask("a", ("ns",), "text"))
        self.assertEqual([10, 9, [1, 3]], [len(world), world.clock, world.up])

    def test_ups_that_ask_one_another(self):
        world = World(shop_forest(), TWO)
        self.assertEqual(("found", 9, (9,)), world.ask("b", WWW, "addr")[0])
        self.assertEqual([1, 1], [len(world.held("a")), len(world.held("b"))])
        world.wait(7)
        # What is left at a is the age for b, whose floor makes it more.
        self.assertEqual(("found", 9, (2,)), world.ask("a", NN, "addr")[0])
        world.wait(6)
        self.assertEqual(("found", 5, (2,)), world.ask("b", NN, "addr")[0])
        self.assertEqual([(("found", NN, "addr", 3, (2,)), 0, 18)], world.held("b"))
        ring = World(shop_forest(), {"a": ((0, 60), ["b", "c"]), "b": ((0, 60), ["c", "a"]), "c": ((0, 60), ["a", "b"])})
        self.assertEqual((("failed",), [NN]), ring.ask("a", NN, "addr"))
        rings = World(shop_forest(), {"a": ((0, 60), ["b"]), "b": ((0, 4), ["c", None]), "c": ((3, 60), ["a", "b"])})
        self.assertEqual(("found", 4, (2,)), rings.ask("c", NN, "addr")[0])
        self.assertEqual([[(("found", NN, "addr", 4, (2,)), 0, 4)], [(("found", NN, "addr", 9, (2,)), 0, 4)], [(("found", NN, "addr", 4, (2,)), 0, 4)]], [rings.held(node) for node in "abc"])

    def test_ups_in_their_sequence(self):
        world = World(shop_forest(), {"a": ((0, 60), ["b", None]), "b": ((0, 3), [None]), "c": ((0, 60), [None, "b"])})
        self.assertEqual([3, 9], [world.ask(node, NN, "addr")[0][1] for node in "ac"])
        world.stop(2)
        world.wait(8)
        self.assertEqual([("failed",), ("found", 1, (2,))], [world.ask(node, NN, "addr")[0] for node in "ac"])
        world.wait(1)
        self.assertEqual(("failed",), world.ask("c", NN, "addr")[0])

    def test_ages_of_zero(self):
        zones = shop_zones()[:3] + [zone_of(SHOP, ("ns", "org"), [(WWW, "addr", 0, 9), (("m",) + SHOP, "alias", 0, WWW)])]
        world = World(Forest(zones, {1: [()], 2: [NET, ORG], 3: [SHOP]}, [1]), {"a": ((9, 60), [None]), "b": ((9, 60), ["a"])})
        self.assertEqual((("found", 0, (9,)), [("m",) + SHOP, WWW]), world.ask("b", ("m",) + SHOP, "addr"))
        self.assertEqual([[], []], [world.held(node) for node in "ab"])

    def test_moves(self):
        aliases = [(("m%d" % at,), "alias", 9 + at, ("m%d" % (at + 1),)) for at in range(30)]
        more = [(("t",), "tree", 4, NET), (("m24",), "addr", 3, 8)]
        for many in [23, 24, 25]:
            zones = [zone_of((), ("ns",), aliases[:many] + [(("m%d" % many,), "addr", 3, 8)] + more[:1])]
            world = World(Forest(zones, {1: [()]}, [1]), {"a": ((0, 1000), [None])})
            outcome, names = world.ask("a", ("m0",), "addr")
            self.assertEqual(min(many + 1, 25), len(names))
            self.assertEqual(("found", 3, (8,)) if many < 25 else ("long",), outcome)
            self.assertEqual(plain(world.forest, ("m0",), "addr"), world.plainly(("m0",), "addr"))
            self.assertEqual((("absent", 4), [("x", "t"), ("x", "net")]), world.ask("a", ("x", "t"), "addr"))
            self.assertIn((("alias", ("x", "t"), 4, ("x", "net")), 0, 4), world.held("a"))
            world.wait(4)
            self.assertEqual(("absent", 1), world.ask("a", ("x", "t"), "addr")[0])

    def test_aliases_that_are_asked_for(self):
        zones = [zone_of((), ("ns",), [(("m",), "alias", 9, ("ns",)), (("t",), "tree", 7, ("m",))])]
        world = World(Forest(zones, {1: [()]}, [1]), ONE)
        self.assertEqual((("found", 9, (("ns",),)), [("m",)]), world.ask("a", ("m",), "alias"))
        self.assertEqual((("absent", 5), [("m",), ("ns",)]), world.ask("a", ("m",), "addr"))
        # Below a tree the alias that is put in is led along, but it answers no question for an alias.
        for _ in range(2):
            self.assertEqual((("absent", 5), [("x", "t"), ("x", "m")]), world.ask("a", ("x", "t"), "alias"))
        self.assertEqual(4, len(world.held("a")) - 1)

    def test_clashes_end_entries(self):
        world = World(shop_forest(), ONE)
        world.ask("a", ("q", "net"), "addr")
        world.ask("a", ("x", "q", "net"), "addr")
        self.assertEqual([(("absent", ("q", "net"), 5), 0, 5)], world.held("a"))
        with_q = [zone for zone in shop_zones() if zone.apex == NET][0].with_records([(("q", "net"), "addr", 9, 1)])
        world.change(with_q)
        self.assertEqual(("absent", 5), world.ask("a", ("q", "net"), "addr")[0])
        world.wait(5)
        self.assertEqual(("found", 9, (1,)), world.ask("a", ("q", "net"), "addr")[0])
        self.assertEqual(("found", 9, (1,)), world.plainly(("q", "net"), "addr")[0])

    def test_each_step_tries_all_ups_anew(self):
        zones = [zone_of((), ("ns",), [(NET, "server", 9, NN), (NN, "addr", 9, 2), (("x",), "addr", 9, 5)]), zone_of(NET, NN, [(("m", "net"), "alias", 9, ("x",))])]
        world = World(Forest(zones, {1: [()], 2: [NET]}, [1]), {"a": ((0, 60), ["b", "c"]), "b": ((0, 60), [None]), "c": ((0, 60), [None])})
        world.ask("c", ("m", "net"), "text")
        world.stop(2)
        # For the first name b comes to nothing and c has it; for the second one b is asked again.
        self.assertEqual((("found", 9, (5,)), [("m", "net"), ("x",)]), world.ask("a", ("m", "net"), "addr"))
        self.assertEqual([("found", ("x",), "addr", 9, (5,))], [row[0] for row in world.held("b")])

    def test_broken_and_lame(self):
        zones = [zone_of((), ("ns",), [(("q",), "server", 9, ("ns",)), (NET, "server", 9, NN), (NN, "addr", 9, 7)]), zone_of(NET, NN, [(("m", "net"), "alias", 9, ("x", "q"))])]
        world = World(Forest(zones, {1: [()], 7: []}, [1]), ONE)
        self.assertEqual([(("failed",), [("x", "q")]), (("failed",), [("x", "net")])], [world.ask("a", ("x", "q"), "addr"), world.ask("a", ("x", "net"), "addr")])
        world = World(Forest(zones, {1: [()], 7: [NET]}, [1]), ONE)
        self.assertEqual((("failed",), [("m", "net"), ("x", "q")]), world.ask("a", ("m", "net"), "addr"))
        self.assertEqual([("alias", ("m", "net"), 9, ("x", "q"))], [row[0] for row in world.held("a")])

    def check(self, seed):
        chance = random.Random(seed)
        forest = random_forest(seed % 120)
        resolvers = random_resolvers(chance)
        world, plain_world = World(forest, resolvers), PlainWorld(forest, resolvers)
        worlds = []
        for deed in some_deeds(chance, forest, list(resolvers), 25):
            told = done(world, deed)
            if isinstance(told, type):
                self.assertIn(told, [Unfit])
                self.assertEqual(deed[0] == "stop", deed[1] not in world.up)
                continue
            self.assertEqual(done(plain_world, deed), told)
            if chance.random() < 0.3:
                self.assertEqual(plain_world.undo(), world.undo())
            worlds.append((world.twin(), [sorted(world.held(node), key=repr) for node in resolvers]))
            self.same(plain_world, world)
        # What was done and undone later stays without effect on twins.
        for twin, held in worlds:
            self.assertEqual(held, [sorted(twin.held(node), key=repr) for node in resolvers])
        while plain_world.past:
            self.assertEqual(plain_world.undo(), world.undo())
            self.same(plain_world, world)
        self.assertEqual(World(forest, resolvers), world)

    def same(self, plain_world, world):
        now = plain_world.now
        self.assertEqual([now["clock"], now["up"], len(plain_world.past)], [world.clock, world.up, len(world)])
        self.assertEqual([deed for deed, _ in plain_world.past], world.deeds)
        self.assertEqual(plain_world.forest(), world.forest)
        for node in plain_world.resolvers:
            self.assertEqual(sorted(plain_world.held(node), key=repr), sorted(world.held(node), key=repr))

    def test_by_chance(self):
        for seed in range(150):
            self.check(seed)

    def test_facts(self):
        """O1: without changes all datas are those of the plain reading."""
        tried = 0
        for seed in range(300):
            chance = random.Random(seed)
            forest = random_forest(seed)
            if any([row[0] in ("no cut", "no zone") for row in faults(forest)]):
                continue
            resolvers = random_resolvers(chance)
            world = World(forest, resolvers)
            for deed in some_deeds(chance, forest, list(resolvers), 20, False):
                told = done(world, deed)
                if isinstance(told, tuple) and told[0][0] != "failed":
                    wanted = world.plainly(deed[2], deed[3])[0]
                    self.assertEqual((wanted[0], wanted[2:]), (told[0][0], told[0][2:]))
                    tried += 1
        self.assertGreater(tried, 400)

    def test_limits_of_age(self):
        for seed in range(80):
            chance = random.Random(seed)
            resolvers = random_resolvers(chance)
            sound = [forest for forest in [random_forest(at) for at in range(seed, seed + 9)] if not any([row[0] in ("no cut", "no zone") for row in faults(forest)])]
            if sound:
                self.check_limits(chance, sound[0], resolvers)

    def check_limits(self, chance, forest, resolvers):
        """Each step that is put in or told was the answer of its home not longer ago than the limit."""
        world, history = World(forest, resolvers), [(0, forest)]
        limits = limits_of(resolvers, 10)
        for _ in range(25):
            if chance.random() < 0.3:
                zone = chance.choice(forest.zones)
                records = [record for record in zone.records() if record[1] not in ("server", "start") and record[0][:1] not in [("n",), ("m",)]]
                other = zone.without(chance.sample(records, len(records) // 2)).with_serial(chance.randrange(9))
                world.change(other)
                if any([row[0] in ("no cut", "no zone") for row in faults(world.forest)]):
                    world.undo()
                else:
                    history.append((world.clock, world.forest))
            elif chance.random() < 0.5:
                world.wait(chance.randrange(4))
            else:
                node = chance.choice(list(resolvers))
                outcome, names = world.ask(node, chance.choice(names_at(forest)), "addr")
                for at, name in enumerate(names):
                    word = "alias" if at + 1 < len(names) else outcome[0]
                    if word not in ("failed", "long"):
                        rest = (names[at + 1],) if word == "alias" else outcome[2:]
                        self.check_step(history, world.clock, limits[node], name, (word,) + rest)

    def check_step(self, history, clock, limit, name, wanted):
        ends = [moment - 1 for moment, _ in history[1:]] + [clock]
        for (begun, forest), end in zip(history, ends):
            if limit is None or end >= clock - limit or begun == clock:
                told = answer(forest.zone(home(forest, name)), name, "addr")
                if wanted == {"tree": ("alias", told[-1]), "alias": ("alias", told[-1]), "found": ("found",) + told[2:]}.get(told[0], told[:1]):
                    return
        self.fail("%s %s was no answer" % (name, wanted))


def limits_of(resolvers, age):
    """The limits of O2, with no limit where a clash may end an entry of a ring early."""
    net = {node: (policy, 0, sorted(ups, key=lambda up: up or "")) for node, (policy, ups) in resolvers.items()}
    leading = {node: {up for up in row[2] if up is not None} for node, row in net.items()}
    for _ in net:
        for node in net:
            leading[node] = leading[node].union(*[leading[up] for up in leading[node]])
    found = {}
    for node in net:
        ringed = [one for one in leading[node] | {node} if one in leading[one]]
        endless = any([min(net[one][0][1], max(1, net[one][0][0])) > 1 for one in ringed])
        found[node] = None if endless else greatest_stale(net, node, age)
    return found


class DeedsTest(unittest.TestCase):
    def test_each_deed_is_undone(self):
        world = World(shop_forest(), TWO)
        other = shop_zones()[3].with_serial(9)
        rows = [(lambda: world.wait(5), ("wait", 5)), (lambda: world.change(other), ("change", other)), (lambda: world.stop(2), ("stop", 2)), (lambda: world.start_again(2), ("start", 2)),
                (lambda: world.ask("b", WWW, "addr"), ("ask", "b", WWW, "addr")), (lambda: world.wait(0), ("wait", 0)), (lambda: world.ask("a", ("q",), "text"), ("ask", "a", ("q",), "text"))]
        states = []
        for call, deed in rows:
            states.append(self.told(world))
            call()
            self.assertEqual(deed, world.deeds[-1])
        self.assertEqual([deed for _, deed in rows], world.deeds)
        self.assertEqual([7, 5, other], [len(world), world.clock, world.forest.zone(SHOP)])
        for _, deed in rows[::-1]:
            self.assertEqual(deed, world.undo())
            self.assertEqual(states.pop(), self.told(world))
        with self.assertRaises(Nothing) as caught:
            world.undo()
        self.assertIsNone(caught.exception.value)
        self.assertEqual(World(shop_forest(), TWO), world)

    def told(self, world):
        return [world.clock, world.up, world.deeds, len(world), seen(world.forest), [world.held(node) for node in "ab"], world.depth]

    def test_wrong_arguments(self):
        world = World(shop_forest(), TWO)
        world.stop(3)
        world.ask("a", NN, "addr")
        ahead = self.told(world)
        for value in NO_MOMENTS:
            check_refused(self, InvalidNumber, value, lambda: world.wait(value))
        for value in NOTHING_AT_ALL + [0, 4, 2 ** 32 - 1, True, "1", None]:
            check_refused(self, InvalidMachines, value, lambda: world.stop(value))
            check_refused(self, InvalidMachines, value, lambda: world.start_again(value))
            check_refused(self, InvalidZone, value, lambda: world.change(value))
        for value in NO_NODES:
            check_refused(self, UnknownNode, value, lambda: world.ask(value, None, None))
            check_refused(self, UnknownNode, value, lambda: world.held(value))
        for value in NOTHING_AT_ALL + [("*",), ("*", "net")]:
            check_refused(self, InvalidName, value, lambda: world.ask("a", value, None))
            check_refused(self, InvalidName, value, lambda: world.plainly(value, None))
            check_refused(self, InvalidKind, value, lambda: world.ask("a", WWW, value))
            check_refused(self, InvalidKind, value, lambda: world.plainly(WWW, value))
        for call, error, value in [(lambda: world.stop(3), Unfit, 3), (lambda: world.start_again(1), Unfit, 1), (lambda: world.change(zone_of(("com",), NN, [])), OutOfZone, ("com",)),
                                   (world.keep, NoBlock, None), (world.drop, NoBlock, None)]:
            with self.assertRaises(error) as caught:
                call()
            self.assertEqual(value, caught.exception.value)
        self.assertEqual(ahead, self.told(world))
        for word in ["clock", "forest", "up", "deeds", "depth"]:
            with self.assertRaises(AttributeError):
                setattr(world, word, 0)

    def test_wrong_beginnings(self):
        for value in NOTHING_AT_ALL + [Stranger(), shop_zones()]:
            check_refused(self, InvalidForest, value, lambda: World(value, None))
        for value in NO_RESOLVERS:
            check_refused(self, InvalidNet, value, lambda: World(shop_forest(), value))
        self.assertEqual(0, len(World(shop_forest(), {"b": ((0, 1), ["c", "a", None]), "a": ((0, 1), [None, "b"]), "c": ((1, 1), ["b"])})))

    def test_blocks(self):
        world = World(shop_forest(), ONE)
        world.wait(1)
        self.assertIsNone(world.begin())
        self.assertEqual(1, world.depth)
        with self.assertRaises(Nothing):
            world.undo()
        world.wait(2)
        world.begin()
        world.wait(4)
        world.stop(2)
        self.assertEqual([2, 7, 4], [world.depth, world.clock, len(world)])
        self.assertIsNone(world.keep())
        self.assertEqual([1, 7, [1, 3]], [world.depth, world.clock, world.up])
        world.begin()
        world.begin()
        self.assertIsNone(world.drop())
        world.wait(8)
        world.undo()
        with self.assertRaises(Nothing):
            world.undo()
        world.ask("a", NN, "addr")
        world.drop()
        self.assertEqual([1, 4, 7], [world.depth, len(world), world.clock])
        # Deeds of a block that was kept belong to the one around it.
        self.assertEqual(("stop", 2), world.undo())
        world.drop()
        self.assertEqual([0, 1, 1, [1, 2, 3], [("wait", 1)]], [world.depth, len(world), world.clock, world.up, world.deeds])
        for call in [world.keep, world.drop]:
            with self.assertRaises(NoBlock) as caught:
                call()
            self.assertIsNone(caught.exception.value)
        world.begin()
        world.drop()
        self.assertEqual(("wait", 1), world.undo())
        with self.assertRaises(Nothing):
            world.undo()

    def test_twins(self):
        world = World(shop_forest(), TWO)
        world.wait(3)
        world.ask("b", WWW, "addr")
        world.begin()
        world.stop(2)
        twin = world.twin()
        self.assertEqual([0, 3, world.deeds], [twin.depth, len(twin), twin.deeds])
        self.assertEqual(world, twin)
        world.start_again(2)
        self.assertNotEqual(world, twin)
        self.assertEqual([[1, 3], ("stop", 2), ("ask", "b", WWW, "addr"), ("wait", 3)], [twin.up] + [twin.undo() for _ in range(3)])
        with self.assertRaises(Nothing):
            twin.undo()
        self.assertEqual([[], 1], [twin.held("b"), len(world.held("b"))])
        twin.ask("a", NN, "addr")
        self.assertEqual([1, 1], [len(twin.held("a")), len(world.held("a"))])
        self.assertEqual(("found", 9, (9,)), world.ask("b", WWW, "addr")[0])

    def test_equality(self):
        world = World(shop_forest(), ONE)
        others = [World(shop_forest(), TWO), World(Forest(shop_zones(), {1: [()], 2: [()], 3: [SHOP]}, [1, 2]), ONE)]
        for other in others:
            # Resolvers, what machines serve and the roots do not count.
            self.assertEqual(world, other)
        for other in [None, 0, Stranger(), shop_forest(), World(Forest(shop_zones(), {1: [()], 2: [NET]}, [1]), ONE), World(Forest(shop_zones()[:3], {1: [()], 2: [NET], 3: []}, [1]), ONE)]:
            self.assertNotEqual(world, other)
        other = World(shop_forest(), ONE)
        world.wait(0)
        self.assertNotEqual(world, other)
        other.wait(0)
        self.assertEqual(world, other)
        world.wait(2), world.wait(3), other.wait(3), other.wait(2)
        self.assertNotEqual(world, other)
        # Another beginning with the same deeds is another world; one that comes to the same zones by deeds has deeds.
        changed = shop_zones()[3].with_serial(9)
        one, two = World(Forest(shop_zones()[:3] + [changed], {1: [()], 2: [NET, ORG], 3: [SHOP]}, [1]), ONE), World(shop_forest(), ONE)
        self.assertNotEqual(one, two)
        two.change(changed)
        self.assertNotEqual(one, two)
        one.change(changed)
        self.assertEqual(one, two)

    def test_limits(self):
        nodes = "abcdefgh"
        forest = random_forest(7, machines=9, zones=8)
        world = World(forest, {node: ((0, 10 ** 9), [other for other in nodes if other != node] + [None]) for node in nodes})
        for machine in forest.machines:
            world.stop(machine)
        for node in nodes:
            # There are tens of thousands of ways among eight nodes.
            self.assertLess(calls_of(world.ask, node, WWW, "addr"), 300000)
            self.assertEqual(("failed",), world.ask(node, WWW, "addr")[0])
        for machine in forest.machines:
            world.start_again(machine)
        for deed in some_deeds(random.Random(5), forest, list(nodes), 60):
            done(world, deed)
        self.assertEqual(world, world.twin())
        while len(world) > 0:
            world.undo()
        self.assertEqual([8] * 8, list(age_limit(world).values()))
