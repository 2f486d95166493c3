"""Nets of seconds: lives, rings, stands and moves."""

import random
import unittest
from itertools import permutations, product

from rootward.errors import InvalidNet, InvalidRun, InvalidSerial, InvalidStand, TooMany, UnknownNode
from rootward.secondnets import (
    comes_to_newest, endless, judge_endless, judge_lives, life_ring, life_run, longest_life, moves_of, settled_stands, tells_until)
from rootward.serials import newer
from tests.manners import check_refused
from tests.samples import NOTHING_AT_ALL
from tests.test_caches import NO_MOMENTS
from tests.test_chains import NO_NODES

NET = {"a": (60, [None]), "b": (40, ["a"]), "c": (40, ["b", "d"]), "d": (10, ["c"])}
TREE = {"a": (60, [None]), "b": (40, [None, "a"]), "c": (1, ["a", "b"])}
RING = {"a": (9, [None, "c"]), "b": (9, ["a"]), "c": (9, ["b"])}
# Each is ahead of the one ahead of it here, the first of the last.
THIRD = 2 ** 32 // 3
ROUND = [0, THIRD, 2 * THIRD]
CIRCLE = {"a": (9, ["d"]), "b": (9, ["a"]), "c": (9, ["b"]), "d": (9, ["c"])}
NO_NETS = [one for one in NOTHING_AT_ALL] + [{**NET, "e": (1, ["f"])}, {**NET, "e": (1, ["e"])}, {**NET, "e": (1, ["a", None])}, {**NET, "e": (1, ["b", "a"])}, {**NET, "e": (1, ["a", "a"])},
                                            {**NET, "e": (1, [])}, {**NET, "e": (1, (None,))}, {**NET, "e": [1, [None]]}, {**NET, "e": (1,)}, {**NET, "e": (1, [None], 1)}, {**NET, "e": (0, [None])},
                                            {"A": (1, [None])}, {"": (1, [None])}, {1: (1, [None])}, {None: (1, [None])}, {**NET, "e": (True, [None])}, {**NET, "e": (1, [None, None])}]
for _value in NOTHING_AT_ALL:
    NO_NETS.extend([{**NET, "e": _value}, {**NET, "e": (1, [None, _value])}, {**NET, "e": (1, ["a", _value])}])
    if _value != 2 ** 32:
        NO_NETS.append({**NET, "e": (_value, [None])})
    if _value != ["a"]:
        NO_NETS.append({**NET, "e": (1, _value)})
NO_SERIALS = [one for one in NOTHING_AT_ALL] + [2 ** 32, -1, True, None, "1", (1,)]


def random_seconds(chance, nodes, expires):
    """A net of seconds that chance decides."""
    net = {}
    for node in nodes:
        ups = chance.sample([None] + [other for other in nodes if other != node], chance.randrange(1, min(4, len(nodes)) + 1))
        net[node] = (chance.choice(expires), sorted(ups, key=lambda up: up or ""))
    return net


def oldest(net, horizon):
    """To each node the last moment up to a horizon at which it may tell: all that can be, moment by moment."""
    ends = {tuple([(node, expire - 1) for node, (expire, _) in net.items()])}
    best = {node: expire - 1 for node, (expire, _) in net.items()}
    for moment in range(horizon):
        todo = list(ends)
        while todo:
            state = dict(todo.pop())
            for node, (expire, ups) in net.items():
                if any([up is not None and state[up] >= moment for up in ups]) and state[node] != moment + expire - 1:
                    best[node] = max(best[node], moment + expire - 1)
                    behind = tuple({**state, node: moment + expire - 1}.items())
                    if behind not in ends:
                        ends.add(behind)
                        todo.append(behind)
        ends = {tuple([(node, max(end, moment)) for node, end in state]) for state in ends}
    return best


def moves_by_hand(net, serial, stand):
    return [(node, up) for node in sorted(net) for up in net[node][1] if newer(serial if up is None else stand[up], stand[node])]


def moved(net, serial, stand, move):
    node, up = move
    return {**stand, node: serial if up is None else stand[up]}


def all_stands(net, serial, stand):
    """All stands that rows of moves lead to, to each the list of those behind one move more."""
    found, todo = {}, [stand]
    while todo:
        one = todo.pop()
        key = tuple(sorted(one.items()))
        if key not in found:
            behind = [moved(net, serial, one, move) for move in moves_by_hand(net, serial, one)]
            found[key] = [tuple(sorted(other.items())) for other in behind]
            todo.extend(behind)
    return found


def has_ring(stands):
    """Whether some stand leads back to itself: what is left if those that lead nowhere else are taken away again and again."""
    left = {key: list(behind) for key, behind in stands.items()}
    while True:
        ended = [key for key, behind in left.items() if not [one for one in behind if one in left]]
        if not ended:
            return len(left) > 0
        for key in ended:
            del left[key]


class WrongArgumentsTest(unittest.TestCase):
    def test_nets(self):
        for value in NO_NETS:
            for call in [lambda: tells_until(value, None), lambda: longest_life(value, None), lambda: life_run(value, None), lambda: life_ring(value, None), lambda: judge_lives(value, None),
                         lambda: moves_of(value, None, None), lambda: settled_stands(value, None, None), lambda: endless(value, None, None), lambda: judge_endless(value, None, None, None),
                         lambda: comes_to_newest(value, None, None)]:
                check_refused(self, InvalidNet, value, call)

    def test_nodes_serials_stands(self):
        for value in NO_NODES:
            if value != "d":
                for call in [longest_life, life_run, life_ring]:
                    check_refused(self, UnknownNode, value, lambda: call(NET, value))
        stand = dict.fromkeys(NET, 1)
        calls = [moves_of, settled_stands, endless, comes_to_newest, lambda seconds, serial, stand: judge_endless(seconds, serial, stand, None)]
        for value in NO_SERIALS:
            for call in calls:
                check_refused(self, InvalidSerial, value, lambda: call(NET, value, None))
        wrong = [one for one in NOTHING_AT_ALL] + [{**stand, "e": 1}, {node: 1 for node in "abc"}, {**{node: 1 for node in "abc"}, "e": 1}, {**stand, None: 1}, list(stand.items())]
        for value in wrong + [{**stand, node: value} for node in NET for value in NO_SERIALS]:
            for call in calls:
                check_refused(self, InvalidStand, value, lambda: call(NET, 1, value))


class RunsTest(unittest.TestCase):
    def test_by_hand(self):
        self.assertEqual({"a": 59, "b": 39, "c": 39, "d": 9}, tells_until(NET, []))
        self.assertEqual({"a": 59, "b": 98, "c": 137, "d": 107}, tells_until(NET, [(0, "a", None), (5, "a", None), (59, "b", "a"), (98, "c", "b"), (98, "d", "c")]))
        self.assertEqual({"a": 59, "b": 39, "c": 39, "d": 9}, tells_until(NET, [(60, "b", "a"), (60, "c", "b"), (10 ** 9, "d", "c")]))
        self.assertEqual({"a": 59, "b": 39, "c": 48, "d": 18}, tells_until(NET, [(9, "c", "d"), (9, "d", "c")]))
        self.assertEqual({"a": 59, "b": 39, "c": 39, "d": 9}, tells_until(NET, [(0, "d", "c"), (0, "b", "a")]))
        # What no longer tells is new again behind a success.
        self.assertEqual({"a": 59, "b": 94, "c": 39, "d": 9}, tells_until(NET, [(50, "b", "a"), (55, "b", "a")]))

    def test_each_wrong_step(self):
        good = [(5, "b", "a"), (6, "c", "d"), (6, "d", "c")]
        wrong = [(5, "b"), (5, "b", "a", 1), [5, "b", "a"], (5, "b", None), (5, "e", "a"), (5, "b", "c"), (5, None, "a"), (5, "a", "b"), (5, "b", "b"), (-1, "b", "a"), (True, "b", "a")]
        wrong.extend([value for value in NOTHING_AT_ALL] + [(value, "b", "a") for value in NO_MOMENTS] + [(5, value, "a") for value in NOTHING_AT_ALL] + [(5, "b", value) for value in NOTHING_AT_ALL])
        for value in wrong:
            for at in range(4):
                with self.assertRaises(InvalidRun) as caught:
                    tells_until(NET, good[:at] + [value, None])
                self.assertEqual(at, caught.exception.value)
        with self.assertRaises(InvalidRun) as caught:
            tells_until(NET, good + [(5, "d", "c")])
        self.assertEqual(3, caught.exception.value)
        for value in NOTHING_AT_ALL:
            if not isinstance(value, list):
                with self.assertRaises(InvalidRun) as caught:
                    tells_until(NET, value)
                self.assertEqual(0, caught.exception.value)


class LivesTest(unittest.TestCase):
    def test_by_hand(self):
        self.assertEqual([59, 98, None, None], [longest_life(NET, node) for node in NET])
        self.assertEqual([59, 98, 98], [longest_life(TREE, node) for node in TREE])
        self.assertEqual([[], [(59, "b", "a")]], [life_run(NET, "a"), life_run(NET, "b")])
        ones = {node: (1, ups) for node, (_, ups) in RING.items()}
        self.assertEqual([[0, 0, 0], [None, None, None]], [[longest_life(ones, node) for node in ones], [life_ring(ones, node) for node in ones]])
        self.assertEqual([None, None, None], [longest_life({**ones, "b": (2, ["a"])}, node) for node in ones])
        # A ring of ones hands on what comes into it.
        rows = {"x": (5, [None]), "a": (1, ["c", "x"]), "b": (1, ["a"]), "c": (1, ["b"]), "y": (3, ["c"])}
        self.assertEqual([4, 4, 4, 4, 6], [longest_life(rows, node) for node in rows])
        self.assertEqual([], [node for node in rows if tells_until(rows, life_run(rows, node))[node] != longest_life(rows, node)])

    def test_all_runs(self):
        for seed in range(150):
            chance = random.Random(seed)
            net = random_seconds(chance, "abcd"[:chance.choice([2, 3, 4])], chance.choice([[1, 1, 2], [1, 2, 3]]))
            found = oldest(net, 14)
            for node in net:
                life, run, ring = longest_life(net, node), life_run(net, node), life_ring(net, node)
                self.assertEqual(life is None, found[node] >= 12)
                self.assertEqual([life is None, life is not None], [run is None, ring is None])
                if life is not None:
                    self.assertEqual(found[node], life)
                    self.assertEqual(life, tells_until(net, run)[node])
                else:
                    self.check_ring(net, node, ring)

    def check_ring(self, net, node, ring):
        self.assertTrue(len(ring) >= 2 and ring[0] == ring[-1] and any([net[one][0] > 1 for one in ring]))
        self.assertTrue(all([one in net[other][1] for one, other in zip(ring, ring[1:])]))
        behind = {node: True}
        for _ in net:
            behind.update({up: True for one in list(behind) for up in net[one][1] if up is not None})
        self.assertTrue(any([one in behind for one in ring]))

    def test_limits(self):
        nodes = "abcdefgh"
        net = {node: (10 ** 9, [None] + [other for other in nodes if other < node]) for node in nodes}
        self.assertEqual([at * (10 ** 9 - 1) for at in range(1, 9)], [longest_life(net, node) for node in nodes])
        self.assertEqual(7, len(life_run(net, "h")))
        full = {node: (2, [other for other in nodes if other != node]) for node in nodes}
        self.check_ring(full, "h", life_ring(full, "h"))
        self.assertIsNone(life_run(full, "a"))

    def test_judge(self):
        lives = {node: longest_life(NET, node) for node in NET}
        self.assertTrue(judge_lives(NET, lives))
        self.assertTrue(judge_lives(TREE, {"a": 59, "b": 98, "c": 98}))
        rows = [({"a": 59, "b": 98, "c": None, "d": 10 ** 50}, False), ({"a": 59, "b": 98, "c": 10 ** 50, "d": None}, False), ({"a": 58, "b": 98, "c": None, "d": None}, False),
                ({"a": 60, "b": 99, "c": None, "d": None}, True), ({"a": 60, "b": 98, "c": None, "d": None}, False), ({"a": None, "b": None, "c": None, "d": None}, True),
                ({"a": None, "b": 98, "c": None, "d": None}, False), ({"a": 59, "b": 97, "c": None, "d": None}, False), ({"a": 59, "b": 98, "c": None}, False),
                ({**lives, "e": 1}, False), ({"a": 59, "b": 98, "c": None, "e": None}, False), (list(lives.items()), False), ({**lives, "a": "59"}, False), ({**lives, "a": [59]}, False)]
        for value, wanted in rows:
            self.assertEqual(wanted, judge_lives(NET, value))
        for value in NOTHING_AT_ALL:
            self.assertFalse(judge_lives(NET, value))
            if value is not None and value != 2 ** 32:
                self.assertEqual([False] * 2, [judge_lives(NET, {**lives, "b": value}), judge_lives({"a": (1, [None])}, {"a": value})])
        self.assertEqual([True, False, False], [judge_lives({"a": (1, [None])}, {"a": value}) for value in [0, -1, False]])
        ring = {"a": (1, ["b"]), "b": (1, ["a"])}
        self.assertEqual([True, False, True, False], [judge_lives(ring, value) for value in [{"a": 0, "b": 0}, {"a": 1, "b": 0}, {"a": 3, "b": 3}, {"a": None, "b": 0}]])


class StandsTest(unittest.TestCase):
    def check(self, net, serial, stand):
        self.assertEqual(moves_by_hand(net, serial, stand), moves_of(net, serial, stand))
        stands = all_stands(net, serial, stand)
        settled = sorted([list(key) for key, behind in stands.items() if not behind])
        self.assertEqual(settled, settled_stands(net, serial, stand))
        ring = endless(net, serial, stand)
        self.assertEqual(has_ring(stands), ring is not None)
        if ring is not None:
            self.assertTrue(judge_endless(net, serial, stand, ring))
            self.check_ring(net, serial, stand, ring)
        newest = ring is None and settled == [sorted([(node, serial) for node in net])]
        self.assertEqual(newest, comes_to_newest(net, serial, stand))

    def check_ring(self, net, serial, stand, value):
        moves, ring = value
        states = [stand]
        for move in moves + ring:
            self.assertIn(move, moves_by_hand(net, serial, states[-1]))
            states.append(moved(net, serial, states[-1], move))
        self.assertEqual(states[len(moves)], states[-1])
        self.assertGreater(len(ring), 0)

    def test_small_nets(self):
        for seed in range(200):
            chance = random.Random(seed)
            net = random_seconds(chance, "abcd"[:chance.choice([1, 2, 3, 4])], [1])
            serials = chance.choice([ROUND, [5, 6, 7], [0, 2 ** 31, 5], [0, THIRD, 2 * THIRD, 2 ** 31]])
            self.check(net, chance.choice(serials), {node: chance.choice(serials) for node in net})

    def test_by_hand(self):
        self.assertEqual([[("a", 7), ("b", 7)]], settled_stands({"a": (9, [None]), "b": (9, ["a"])}, 7, {"a": 5, "b": 5}))
        net = {"a": (9, [None]), "b": (9, [None, "a"]), "c": (9, ["b"])}
        self.assertEqual([("a", None), ("b", None), ("b", "a")], moves_of(net, 7, {"a": 5, "b": 4, "c": 5}))
        self.assertTrue(comes_to_newest(net, 7, {"a": 5, "b": 4, "c": 5}))
        # What is newer than the first stays, and is handed on.
        self.assertFalse(comes_to_newest(net, 7, {"a": 5, "b": 8, "c": 5}))
        self.assertEqual([[("a", 7), ("b", 8), ("c", 8)]], settled_stands(net, 7, {"a": 5, "b": 8, "c": 5}))
        # Half of the circle away neither is newer.
        self.assertEqual([[], None, False, True], [moves_of(net, 0, dict.fromkeys(net, 2 ** 31)), endless(net, 0, dict.fromkeys(net, 2 ** 31)),
                                                   comes_to_newest(net, 0, dict.fromkeys(net, 2 ** 31)), comes_to_newest(net, 0, dict.fromkeys(net, 0))])

    def test_rings_of_three_serials(self):
        for order in permutations(ROUND):
            self.check({"a": (9, ["c"]), "b": (9, ["a"]), "c": (9, ["b"])}, 0, dict(zip("abc", order)))
        goes = []
        for row in product(ROUND, repeat=4):
            self.check(CIRCLE, 0, dict(zip("abcd", row)))
            goes.append(endless(CIRCLE, 0, dict(zip("abcd", row))) is not None)
        self.assertEqual(12, sum(goes))
        four = {"a": (9, ["b", "c"]), "b": (9, ["a", "c"]), "c": (9, ["a", "b", "d"]), "d": (9, ["a"])}
        for row in product(ROUND, repeat=4):
            self.check(four, 0, dict(zip("abcd", row)))

    def test_no_stand_is_settled(self):
        # The first three stay as they are, and what the last one takes is never the newest of them.
        net = {"a": (9, ["c"]), "b": (9, ["a"]), "c": (9, ["b"]), "x": (9, ["a", "b", "c"])}
        stand = {"a": ROUND[0], "b": ROUND[1], "c": ROUND[2], "x": 0}
        self.check(net, 0, stand)
        self.assertEqual([[], False], [settled_stands(net, 0, stand), comes_to_newest(net, 0, stand)])

    def test_fact_n2(self):
        for seed in range(80):
            chance = random.Random(seed)
            net = random_seconds(chance, "abcde", [1])
            serials = [2 ** 32 - 2, 2 ** 32 - 1, 0, 1]
            stand = {node: chance.choice(serials) for node in net}
            self.assertIsNone(endless(net, chance.choice(serials), stand))
            self.check(net, 1, stand)
            fed = [node for node in net if None in net[node][1]]
            for _ in net:
                fed.extend([node for node in net if node not in fed and any([up in fed for up in net[node][1]])])
            if len(fed) == len(net):
                self.assertTrue(comes_to_newest(net, 1, stand))

    def test_judge(self):
        stand = dict(zip("abcd", [ROUND[2], ROUND[2], ROUND[1], ROUND[0]]))
        moves, ring = endless(CIRCLE, 0, stand)
        judge = {"seconds": CIRCLE, "serial": 0, "stand": stand}
        self.assertTrue(judge_endless(**judge, value=(moves, ring)))
        self.assertTrue(judge_endless(**judge, value=(moves + ring, ring + ring)))
        self.assertTrue(judge_endless(**judge, value=(moves + ring[:1], ring[1:] + ring[:1])))
        wrong = [(moves, []), (moves, ring[1:]), (moves, ring[:-1]), (moves + ring[:1], ring), [moves, ring], (moves, ring, []), (moves,), (tuple(moves), ring), (moves, tuple(ring)),
                 (moves, ring + ring[:1]), ([], []), (moves, [list(move) for move in ring]), (moves, ring[::-1])]
        for value in NOTHING_AT_ALL:
            wrong.extend([value, (moves, [value] + ring), (moves + [value], ring), (moves, [(ring[0][0], value)] + ring[1:]), (moves, [(value, ring[0][1])] + ring[1:])])
            if value != []:
                wrong.append((value, ring))
            wrong.append((moves, value))
        for value in wrong:
            self.assertFalse(judge_endless(**judge, value=value))
        other = {"a": (9, [None])}
        self.assertEqual([False, False], [judge_endless(other, 1, {"a": 0}, value) for value in [([("a", None)], [("a", None)]), ([], [("a", None)])]])
        # Judging asks for no number of stands.
        wide = {node: (1, [None]) for node in "abcdefgh"}
        self.assertFalse(judge_endless(wide, 9, dict(zip(wide, range(8))), ([], [])))

    def test_too_many(self):
        wide = {node: (1, [None] + [other for other in "abcdefgh" if other != node]) for node in "abcdefgh"}
        for call in [settled_stands, endless, comes_to_newest]:
            with self.assertRaises(TooMany) as caught:
                call(wide, 0, dict(zip(wide, [0, 0, 1, 2, 3, 3, 3, 3])))
            self.assertEqual(4 ** 8, caught.exception.value)
            with self.assertRaises(InvalidStand):
                call(wide, 0, dict(zip("abcdefg", range(7))))
        # Four nodes have moves to the first and to the other four, and to the one, two or three that are ahead of them.
        self.assertEqual(4 * 5 + 3 + 2 + 1, len(moves_of(wide, 5, dict(zip(wide, [0, 1, 2, 3, 5, 5, 5, 5])))))

    def test_limits(self):
        wide = {node: (1, [None] + [other for other in "abcdefgh" if other != node]) for node in "abcdefgh"}
        stand = dict(zip(wide, [0, 0, 0, 1, 1, 1, 2, 2]))
        self.assertEqual([[(node, 2) for node in wide]], settled_stands(wide, 2, stand))
        self.assertTrue(comes_to_newest(wide, 2, stand))
        seven = {node: wide[node][:1] + ([up for up in wide[node][1] if up != "h"],) for node in "abcdefg"}
        self.assertEqual([[(node, 3) for node in seven]], settled_stands(seven, 3, dict(zip(seven, [0, 0, 0, 1, 1, 2, 2]))))
        self.assertIsNone(endless(seven, 3, dict(zip(seven, [0, 0, 0, 1, 1, 2, 2]))))
        two = {"a": (1, [None, "b"]), "b": (1, [None, "a"])}
        self.assertTrue(judge_endless(seven, 0, dict(zip(seven, ROUND + ROUND + ROUND[:1])), endless(seven, 0, dict(zip(seven, ROUND + ROUND + ROUND[:1])))))
        self.assertEqual([[("a", 9), ("b", 9)]], settled_stands(two, 9, {"a": 0, "b": 5}))
