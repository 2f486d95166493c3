"""Manners of loads, questions, worlds, their runs and texts, and the desk."""

import copy
import unittest

from rootward import desk, questions, transfers, worldreads, worldruns, worlds, worldtexts
from rootward.desk import Desk
from rootward.transfers import Gathered, pieces
from rootward.worlds import World
from tests.manners import Manners, seen, spoil
from tests.sampleforests import NET, NN, SHOP, WWW, shop_forest, shop_zones, zone_of
from tests.test_desk import LOAD
from tests.test_transfers import RECORDS
from tests.test_worlds import TWO
from tests.test_worldtexts import DEEDS, NODES, SMALL


def some_world():
    """A world with a past and a block."""
    world = World(shop_forest(), TWO)
    world.ask("b", WWW, "addr")
    world.begin()
    world.wait(3)
    world.stop(3)
    return world


def bound(call, word):
    """A method of a new object, under its own name, so that each call finds the same."""
    def called(*plain, **named):
        return getattr(call(), word)(*plain, **named)
    called.__name__ = word
    return called


def some_gathered():
    gathered = Gathered()
    gathered.take(pieces(RECORDS, 2)[1])
    return gathered


def some_desk():
    one = Desk()
    one.execute(LOAD)
    return one


class WorldsTest(Manners, unittest.TestCase):
    MODULES = [transfers, questions, worlds, worldruns, worldtexts, worldreads, desk]
    HELPERS = ["Gathered", "Desk", "LoadLines", "deed_line", "take_lines", "forest_told"]

    def calls(self):
        script = [("ask", "b", WWW, "addr"), ("change", zone_of(SHOP, NN, [])), ("ask", "a", ("q",), "text"), ("stop", 2)]
        world, search = {"world": World(shop_forest(), TWO), "script": script}, {"search": (1, [NET, SHOP])}
        rows = [
            (transfers, "pieces", {"load": RECORDS, "size": 2}), (transfers, "zone_behind", {"zone": shop_zones()[3], "load": shop_zones()[3].records()}),
            (questions, "tries", {**search, "name": ("www",)}), (questions, "unlike_tries", {**search, "other_search": (2, [NET])}),
            (questions, "asked_for", {**search, "forest": shop_forest(), "name": ("www",), "kind": "addr"}), (worlds, "World", {"forest": shop_forest(), "resolvers": TWO}), (worldruns, "played", world),
            (worldruns, "same_answers", {"world": world["world"], "other_world": some_world(), "script": script}), (worldruns, "first_stale", world), (worldruns, "age_limit", {"world": world["world"]}),
            (worldtexts, "show_forest", {"forest": shop_forest()}), (worldtexts, "show_resolvers", {"resolvers": TWO}), (worldtexts, "show_deeds", {"deeds": script}),
            (worldreads, "read_forest", {"text": SMALL}), (worldreads, "read_resolvers", {"text": NODES}), (worldreads, "read_deeds", {"text": DEEDS})]
        found = [(getattr(place, word), arguments, []) for place, word, arguments in rows]
        asked = [("wait", {"count": 5}), ("change", {"zone": zone_of(NET, NN, [])}), ("stop", {"machine": 2}), ("start_again", {"machine": 3}), ("ask", {"node": "b", "name": ("q",), "kind": "addr"}), ("undo", {}), ("begin", {}),
                 ("keep", {}), ("drop", {}), ("twin", {}), ("held", {"node": "b"}), ("plainly", {"name": WWW, "kind": "addr"}), ("resolvers", {}), ("zones_told", {})]
        found.extend([(bound(some_world, word), arguments, []) for word, arguments in asked])
        found.extend([(bound(some_gathered, word), arguments, []) for word, arguments in [("take", {"piece": pieces(RECORDS, 2)[0]}), ("lacking", {}), ("load", {}), ("undo", {})]])
        return found + [(bound(some_desk, "execute"), {"line": line}, []) for line in [LOAD, "clock", "ask a net. addr"]]

    def test_a_world_stays_as_it_was(self):
        world = some_world()
        ahead = seen(world)
        for value in [world.up, world.deeds, world.held("b"), world.resolvers(), world.zones_told(), world.forest.zones, world.plainly(WWW, "addr"), worldruns.age_limit(world)]:
            spoil(value)
        self.assertEqual(ahead, seen(world))
        spoil(world.ask("b", WWW, "addr"))
        self.assertEqual([WWW], world.ask("b", WWW, "addr")[1])

    def test_a_world_keeps_nothing_that_it_was_made_of(self):
        resolvers = copy.deepcopy(TWO)
        world = World(shop_forest(), resolvers)
        resolvers["b"][1].append("c")
        del resolvers["a"]
        self.assertEqual([TWO, ("found", 9, (9,))], [world.resolvers(), world.ask("b", WWW, "addr")[0]])

    def test_gathered_keeps_nothing(self):
        gathered = Gathered()
        parts = pieces(RECORDS, 9)
        gathered.take(parts[0])
        spoil(gathered.load())
        spoil(gathered.lacking())
        self.assertEqual([RECORDS, []], [gathered.load(), gathered.lacking()])

    def test_what_is_played_stays_apart(self):
        world = some_world()
        script = [("wait", 1), ("ask", "a", ("q",), "text")]
        behind, answers = worldruns.played(world, script)
        ahead = seen(world)
        script.append(None)
        spoil(answers)
        behind.undo()
        behind.stop(2)
        self.assertEqual(ahead, seen(world))
