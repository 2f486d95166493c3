"""Forwarders: routes, rings, ranks."""

import random
import unittest

from rootward.errors import InvalidBooks, InvalidName, UnknownNode
from rootward.forwards import first_ring, judge_ranks, origin_of, ranks, rings, route, unlike_routes
from rootward.labels import first, ordered
from tests.plainly import under
from tests.samples import NOTHING_AT_ALL, Stranger, nested, small_names

NET, ORG, WWW = ("net",), ("org",), ("www", "net")
BOOKS = {"a": [((), "b"), (NET, None)], "b": [((), None), (ORG, "a")]}
PLAIN = {"a": [((), "b"), (NET, None), (WWW, "c")], "b": [((), None)], "c": [((), "b"), (ORG, None)]}
NAMES = small_names(["a", "b", "c"], 3)


def random_books(seed, nodes=4):
    """Books that a number decides."""
    chance = random.Random(seed)
    names = [chr(ord("a") + index) for index in range(nodes)]
    chance.shuffle(names)
    origins = [(), ("a",), ("b",), ("b", "a"), ("a", "b", "a")]
    books = {}
    for node in names:
        chosen = [()] + [origin for origin in origins[1:] if chance.random() < 0.4]
        books[node] = [(origin, chance.choice(names + [None, None])) for origin in ordered(chosen)]
    return books


def plain_route(books, node, name):
    """The nodes of a route, from node to node, and how it ends."""
    nodes = [node]
    while True:
        origin = max([origin for origin, _ in books[nodes[-1]] if under(name, origin)], key=len)
        onward = dict(books[nodes[-1]])[origin]
        if onward is None:
            return nodes, "here"
        if onward in nodes:
            return nodes, "ring"
        nodes.append(onward)


def plain_end(books, node, name):
    nodes, end = plain_route(books, node, name)
    return nodes[-1] if end == "here" else None


class RoutesTest(unittest.TestCase):
    def test_by_hand(self):
        rows = [("a", ("www", "org"), (["a", "b"], "ring")), ("a", ("x", "net"), (["a"], "here")), ("b", ORG, (["b", "a"], "ring")), ("b", (), (["b"], "here")),
                ("a", (), (["a", "b"], "here")), ("a", ("nets",), (["a", "b"], "here"))]
        for node, name, wanted in rows:
            self.assertEqual(wanted, route(BOOKS, node, name))
        own = {"x": [((), "x")]}
        self.assertEqual([(["x"], "ring"), [((), "x")], (), {"x": None}], [route(own, "x", NET), rings(own), first_ring(own, "x"), ranks(own, NET)])
        three = {"a": [((), "b")], "b": [((), "c")], "c": [((), "b")]}
        self.assertEqual([(["a", "b", "c"], "ring"), (["c", "b"], "ring")], [route(three, "a", ()), route(three, "c", ())])
        self.assertEqual([((), "a"), ((), "b"), ((), "c")], rings(three))

    def test_by_chance(self):
        for seed in range(150):
            books = random_books(seed)
            origins = {origin for book in books.values() for origin, _ in book}
            for name in NAMES:
                own = max([origin for origin in origins if under(name, origin)], key=len)
                self.assertEqual(own, origin_of(books, name))
                for node in books:
                    self.assertEqual(plain_route(books, node, name), route(books, node, name))
                    # Fact W1: all names of a class go as its origin does.
                    self.assertEqual(route(books, node, own), route(books, node, name))
                wanted = {node: len(plain_route(books, node, name)[0]) - 1 if plain_end(books, node, name) else None for node in books}
                self.assertEqual(wanted, ranks(books, name))
            wanted = [(origin, node) for origin in ordered(list(origins)) for node in sorted(books) if plain_end(books, node, origin) is None]
            self.assertEqual(wanted, rings(books))
            for node in books:
                self.assertEqual(first([name for name in NAMES if plain_end(books, node, name) is None]), first_ring(books, node))
                self.assertEqual(first([origin for origin, other in rings(books) if other == node]), first_ring(books, node))

    def test_two_books(self):
        for seed in range(150):
            one, other = random_books(seed), random_books(seed + 1000, 3)
            for node in other:
                unlike = [name for name in NAMES if plain_end(one, node, name) != plain_end(other, node, name)]
                self.assertEqual(first(unlike), unlike_routes(one, other, node))
                self.assertEqual(first(unlike), unlike_routes(other, one, node))
                self.assertIsNone(unlike_routes(one, dict(reversed(one.items())), node))
            with self.assertRaises(UnknownNode) as caught:
                unlike_routes(one, other, "d")
            self.assertEqual("d", caught.exception.value)

    def test_rings_in_both_are_alike(self):
        one, other = {"a": [((), "a"), (NET, None)]}, {"a": [((), "b"), (NET, None)], "b": [((), "a")]}
        self.assertIsNone(unlike_routes(one, other, "a"))
        self.assertEqual((), unlike_routes(one, {"a": [((), None)]}, "a"))
        self.assertEqual(NET, unlike_routes(one, {"a": [((), "a")]}, "a"))

    def test_first_names(self):
        books = {"a": [((), None), (("b", "a"), "a"), (("long-label",), "a"), (("a", "zz"), "a")]}
        self.assertEqual(("b", "a"), first_ring(books, "a"))
        self.assertIsNone(first_ring({"a": [((), None)]}, "a"))
        self.assertEqual(("b", "a"), unlike_routes(books, {"a": [((), None)]}, "a"))


class RanksTest(unittest.TestCase):
    GOOD = {(): {"a": 1, "b": 0, "c": 1}, NET: {"a": 0, "b": 0, "c": 1}, WWW: {"a": 2, "b": 0, "c": 1}, ORG: {"a": 1, "b": 0, "c": 0}}

    def test_right(self):
        self.assertEqual(self.GOOD, {origin: ranks(PLAIN, origin) for origin in self.GOOD})
        self.assertTrue(judge_ranks(PLAIN, self.GOOD))
        self.assertTrue(judge_ranks(PLAIN, dict(reversed(self.GOOD.items()))))
        self.assertEqual({"a": None, "b": None}, ranks(BOOKS, ORG))
        self.assertFalse(judge_ranks(BOOKS, {origin: ranks(BOOKS, origin) for origin in [(), NET, ORG]}))

    def test_one_thing_changed(self):
        for origin in self.GOOD:
            others = {other: row for other, row in self.GOOD.items() if other != origin}
            self.assertFalse(judge_ranks(PLAIN, others))
            self.assertFalse(judge_ranks(PLAIN, {**others, ("com",): self.GOOD[origin]}))
            for value in NOTHING_AT_ALL + [list(self.GOOD[origin].items()), {**self.GOOD[origin], "d": 0}]:
                self.assertFalse(judge_ranks(PLAIN, {**self.GOOD, origin: value}))
            for node, rank in self.GOOD[origin].items():
                for value in [rank + 1, rank - 1, None, str(rank), bool(rank), [rank], (rank,), -rank - 1]:
                    self.assertFalse(judge_ranks(PLAIN, {**self.GOOD, origin: {**self.GOOD[origin], node: value}}))
                nodes = {other: row for other, row in self.GOOD[origin].items() if other != node}
                self.assertFalse(judge_ranks(PLAIN, {**self.GOOD, origin: nodes}))
                self.assertFalse(judge_ranks(PLAIN, {**self.GOOD, origin: {**nodes, "d": rank}}))
        for value in NOTHING_AT_ALL + [list(self.GOOD.items()), {**self.GOOD, ("com",): self.GOOD[()]}, {**self.GOOD, 5: {}}, nested(list, 99), Stranger()]:
            self.assertFalse(judge_ranks(PLAIN, value))


class ErrorsTest(unittest.TestCase):
    CALLS = [
        lambda books: route(books, "no", None), lambda books: origin_of(books, None), rings, lambda books: first_ring(books, "no"), lambda books: ranks(books, None),
        lambda books: judge_ranks(books, None), lambda books: unlike_routes(books, None, "no"), lambda books: unlike_routes(BOOKS, books, "no")]

    def test_no_books(self):
        wrong = [
            {}, {"a": []}, {"a": ()}, {"a": None}, {"a": [(NET, None)]}, {"a": [(NET, None), ((), None)]}, {"a": [((), None), (ORG, None), (NET, None)]},
            {"a": [((), None), ((), None)]}, {"a": [((), None), (NET, None), (NET, None)]}, {"a": [((), "b")]}, {"a": [((), "A")], "A": [((), None)]},
            {"a": [[(), None]]}, {"a": [((), None, None)]}, {"a": [((),)]}, {"a": [((), 5)]}, {"a": [((), ["a"])]}, {"a": [((), {})]}, {"a": [([], None)]},
            {"a": [((), None), (("*",), None)]}, {"a": [((), None), (["net"], None)]}, {"": [((), None)]}, {"abcdefghi": [((), None)]}, {"a1": [((), None)]},
            {"a b": [((), None)]}, {1: [((), None)]}, {None: [((), None)]}, {("a",): [((), None)]}, {"a": [((), True)]}, {"a": [((), None), None]},
            {"a": [((), None)], "b": [(NET, "a")]}, [("a", [((), None)])], {"a": {(): None}}]
        for value in wrong + [value for value in NOTHING_AT_ALL if value != {}]:
            for call in self.CALLS:
                with self.assertRaises(InvalidBooks) as caught:
                    call(value)
                self.assertEqual(value, caught.exception.value)
        self.assertEqual([], rings({"abcdefgh": [((), None)]}))

    def test_no_nodes(self):
        for value in NOTHING_AT_ALL + ["c", "A", "ab", ["a"], ("a",), {"a": 1}]:
            for call in [lambda node: route(BOOKS, node, None), lambda node: first_ring(BOOKS, node), lambda node: unlike_routes(BOOKS, PLAIN, node)]:
                with self.assertRaises(UnknownNode) as caught:
                    call(value)
                self.assertEqual(value, caught.exception.value)
        with self.assertRaises(UnknownNode):
            unlike_routes(BOOKS, PLAIN, "c")

    def test_no_names(self):
        for value in NOTHING_AT_ALL + [("*",), ("*", "net")]:
            for call in [lambda name: route(BOOKS, "a", name), lambda name: origin_of(BOOKS, name), lambda name: ranks(BOOKS, name)]:
                with self.assertRaises(InvalidName) as caught:
                    call(value)
                self.assertEqual(value, caught.exception.value)
