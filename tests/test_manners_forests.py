"""Manners of forests, askings, reach, failures, trust, forwarders and views."""

import copy
import unittest

from rootward import asking, failures, forests, forwards, reach, trust, views
from rootward.errors import (
    InvalidApex, InvalidBooks, InvalidForest, InvalidKind, InvalidMachines, InvalidName, InvalidNumber, InvalidTelling, InvalidViews, UnknownNode)
from rootward.forests import Forest
from tests.manners import Manners, check_refused, seen, spoil
from tests.sampleforests import NET, NN, ORG, SHOP, WWW, shop_forest, shop_zones, zone_of
from tests.samples import Stranger, nested

BOOKS = {"a": [((), "b"), (NET, None)], "b": [((), None), (ORG, "a")]}
PLAIN = {"a": [((), "b")], "b": [((), None), (NET, None)]}
VIEWS = [(0, 9, "in"), (5, 20, "out"), (6, 7, "x")]
SERVES = {1: [()], 2: [ORG, NET], 3: [SHOP]}
TELLINGS = [(SHOP, 3, [(WWW, "addr", 9, (9,)), (WWW, "addr", 9, (8,))]), (ORG, 3, [])]


class ForestsTest(Manners, unittest.TestCase):
    MODULES = [forests, asking, reach, failures, trust, forwards, views]
    HELPERS = ["Asker", "Kept", "Hold", "ways_to_reach"]

    def calls(self):
        forest = shop_forest()
        apex, question = {"forest": forest, "apex": SHOP}, {"forest": forest, "name": WWW, "kind": "addr"}
        up, bad = {"up": [1, 2, 3]}, {"forest": forest, "bad": [2]}
        way, prices = reach.way_to(forest, SHOP), reach.prices(forest)
        rows = [
            (forests, "Forest", {"zones": shop_zones(), "serves": SERVES, "roots": [1]}, []), (forest, "zone", {"apex": NET}, []), (forest, "serves", {"machine": 2}, []),
            (forests, "home", {"forest": forest, "name": WWW}, []), (forests, "parent", apex, []), (forests, "plain", question, []),
            (forests, "homes", question, []), (forests, "faults", {"forest": Forest(shop_zones(), {1: [()]}, [1])}, []), (asking, "ask", {**question, **up}, ["up"]),
            (reach, "reached", {"forest": forest, **up}, ["up"]), (reach, "findable", {**question, **up}, ["up"]), (reach, "way_to", {**apex, **up}, ["up"]),
            (reach, "judge_way", {**apex, "value": way, **up}, ["up"]), (reach, "block_of", {**apex, "up": [1]}, ["up"]),
            (reach, "judge_block", {**apex, "value": [NET, SHOP, ORG], "up": [1]}, ["up"]), (reach, "prices", {"forest": forest, **up}, ["up"]),
            (reach, "judge_prices", {"forest": forest, "value": prices, **up}, ["up"]), (failures, "safe_against", {**apex, "count": 1}, []),
            (failures, "judge_stop_tree", {**apex, "count": 1, "value": failures.stop_tree(forest, SHOP)}, []), (trust, "takeable", bad, []),
            (trust, "take_steps", {**bad, "apex": SHOP}, []), (trust, "judge_take_steps", {**bad, "apex": NET, "value": [("machine", NET, NN, 2)]}, []),
            (trust, "sound", {**bad, "apex": SHOP}, []), (trust, "least_takers", apex, []), (trust, "counts", {**bad, "telling": TELLINGS[0]}, []),
            (trust, "wrong_names", {"forest": forest, "bad": [3], "tellings": TELLINGS, "strict": False}, ["strict"]),
            (forwards, "route", {"books": BOOKS, "node": "a", "name": ORG}, []), (forwards, "origin_of", {"books": BOOKS, "name": WWW}, []),
            (forwards, "rings", {"books": BOOKS}, []), (forwards, "first_ring", {"books": BOOKS, "node": "b"}, []), (forwards, "ranks", {"books": BOOKS, "name": ORG}, []),
            (forwards, "judge_ranks", {"books": PLAIN, "value": {name: forwards.ranks(PLAIN, name) for name in [(), NET]}}, []),
            (forwards, "unlike_routes", {"books": BOOKS, "other_books": PLAIN, "node": "a"}, []), (views, "view_of", {"views": VIEWS, "machine": 7}, []),
            (views, "unlike_view", {"views": VIEWS, "other_views": VIEWS[:1]}, [])]
        rows.extend([(failures, word, apex, []) for word in ["keeping", "stopping", "fewest_to_stop", "stop_tree"]])
        rows.extend([(views, word, {"views": VIEWS}, []) for word in ["idle_views", "view_ranges", "merged_views"]])
        return [(getattr(place, word), arguments, named) for place, word, arguments, named in rows]

    def test_calls_by_which_much_comes_back(self):
        self.assertTrue(forwards.judge_ranks(PLAIN, {name: forwards.ranks(PLAIN, name) for name in [(), NET]}))
        self.assertEqual([WWW], trust.wrong_names(shop_forest(), [3], TELLINGS, strict=False))
        self.assertIsNotNone(reach.block_of(shop_forest(), SHOP, up=[1]))

    def test_forests_stay_as_they_were(self):
        forest = shop_forest()
        ahead = seen(forest)
        for value in [forest.zones, forest.machines, forest.roots, forest.serves(2), forest.serves(9), failures.keeping(forest, SHOP), failures.stop_tree(forest, SHOP)]:
            spoil(value)
        self.assertEqual(ahead, seen(forest))
        self.assertEqual([[1, 2, 3]], failures.keeping(forest, SHOP))
        for word in ["zones", "machines", "roots"]:
            with self.assertRaises(AttributeError):
                setattr(forest, word, [])

    def test_a_forest_keeps_nothing_that_it_was_made_of(self):
        zones, serves, roots = shop_zones(), copy.deepcopy(SERVES), [1]
        forest = Forest(zones, serves, roots)
        ahead = seen(forest)
        serves[2].append(SHOP)
        serves[5] = []
        roots.append(2)
        zones[0] = zone_of((), NN, [])
        del zones[1:]
        self.assertEqual(ahead, seen(forest))
        self.assertEqual(shop_forest(), forest)

    def test_no_list_stands_in_two_places(self):
        trees = failures.stop_tree(Forest(shop_zones(), {1: [()], 2: [NET, ORG], 3: [SHOP], 4: [()]}, [1, 4]), ())
        self.assertEqual(([1], [(1, ([4], [(4, None)]))]), trees)
        spoil(trees)
        self.assertEqual([[1], [4]], failures.keeping(Forest(shop_zones(), {1: [()], 4: [()]}, [1, 4]), ()))


class RefusedTest(unittest.TestCase):
    VALUES = [[["x"], {"k": [["y"]]}, (["z"], {})], {"k": ["y"], "l": [{"m": ["n"]}]}, (["x"], {"k": []}), nested(list, 100), nested(tuple, 100), {("a",): {5: ["x"]}}]

    def forest_calls(self, forest, apex, machines):
        """Calls that refuse the forest, the apex, or the machines."""
        return [
            lambda: reach.way_to(forest, apex, up=machines), lambda: reach.judge_way(forest, apex, [], up=machines), lambda: reach.block_of(forest, apex, up=machines),
            lambda: reach.judge_block(forest, apex, [], up=machines), lambda: trust.take_steps(forest, machines, apex), lambda: trust.sound(forest, machines, apex),
            lambda: trust.judge_take_steps(forest, machines, apex, [])]

    def test_values_are_built_anew(self):
        forest = shop_forest()
        for value in self.VALUES:
            for call in self.forest_calls(value, NET, []) + [
                    lambda: failures.keeping(value, NET), lambda: asking.ask(value, WWW, "addr"), lambda: forests.faults(value), lambda: reach.prices(value),
                    lambda: forests.home(value, WWW), lambda: trust.counts(value, [], None), lambda: failures.stop_tree(value, NET)]:
                check_refused(self, InvalidForest, value, call)
            for call in self.forest_calls(forest, value, []) + [lambda: failures.stopping(forest, value), lambda: forest.zone(value), lambda: forests.parent(forest, value)]:
                check_refused(self, InvalidApex, value, call)
            for call in self.forest_calls(forest, NET, value) + [
                    lambda: reach.reached(forest, up=value), lambda: trust.takeable(forest, value), lambda: forest.serves(value), lambda: views.view_of(VIEWS, value),
                    lambda: asking.ask(forest, WWW, "addr", up=value), lambda: trust.wrong_names(forest, value, [])]:
                check_refused(self, InvalidMachines, value, call)
            for call in [lambda: failures.safe_against(forest, NET, value), lambda: failures.judge_stop_tree(forest, NET, value, None)]:
                check_refused(self, InvalidNumber, value, call)
            for call in [lambda: forests.plain(forest, value, "addr"), lambda: forests.home(forest, value), lambda: reach.findable(forest, value, "addr"),
                         lambda: forwards.route(BOOKS, "a", value), lambda: forwards.ranks(BOOKS, value)]:
                check_refused(self, InvalidName, value, call)
            for call in [lambda: forests.homes(forest, WWW, value), lambda: asking.ask(forest, WWW, value)]:
                check_refused(self, InvalidKind, value, call)
            check_refused(self, InvalidTelling, value, lambda: trust.counts(forest, [], value))
            for call in [lambda: forwards.rings(value), lambda: forwards.unlike_routes(BOOKS, value, "a"), lambda: forwards.judge_ranks(value, {})]:
                check_refused(self, InvalidBooks, value, call)
            for call in [lambda: forwards.first_ring(BOOKS, value), lambda: forwards.unlike_routes(BOOKS, PLAIN, value)]:
                check_refused(self, UnknownNode, value, call)
            for call in [lambda: views.idle_views(value), lambda: views.unlike_view(VIEWS, value), lambda: views.merged_views(value)]:
                check_refused(self, InvalidViews, value, call)

    def test_refused_books(self):
        books = {"a": [((), "b"), (NET, "c")], "b": [((), None)]}
        check_refused(self, InvalidBooks, books, lambda: forwards.rings(books))

    def test_others_are_stored_as_they_are(self):
        thing = Stranger()
        for call in [lambda: forests.faults(thing), lambda: reach.reached(thing), lambda: asking.ask(thing, WWW, "addr")]:
            with self.assertRaises(InvalidForest) as caught:
                call()
            self.assertIs(thing, caught.exception.value)
        with self.assertRaises(InvalidForest) as caught:
            forests.faults([thing, shop_forest()])
        self.assertIs(thing, caught.exception.value[0])
