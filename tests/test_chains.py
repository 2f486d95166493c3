"""Nets of caches: runs, the greatest staleness, its ways, runs and ranks."""

import random
import unittest

from rootward.cacheruns import staleness
from rootward.chains import greatest_stale, judge_ranks, settled_net, stale_ranks, stale_way, told_run, worst_run
from rootward.errors import InvalidMoment, InvalidNet, InvalidNumber, InvalidRun, InvalidTimeline, UnknownNode
from rootward.stale import stale_bound, told_silent
from tests.manners import check_refused
from tests.plaincaches import random_net, stalest
from tests.samples import NOTHING_AT_ALL
from tests.test_cacheruns import LINE, NO_TIMELINES
from tests.test_caches import NO_MOMENTS, NO_POLICIES
from tests.test_stale import NO_BOUNDS

NET = {"a": ((0, 3600), 0, [None]), "b": ((30, 60), 0, ["a"]), "c": ((0, 60), 10, [None, "b"])}
RUN = [(0, ["a"], False), (99, ["b", "a"], False), (128, ["c", "b"], False), (138, ["c"], True)]


def net_without(value):
    """Nets in which one thing is another one."""
    row = NET["c"]
    return [{**NET, "c": value}, {**NET, "c": (value,) + row[1:]}, {**NET, "c": row[:1] + (value,) + row[2:]}, {**NET, "c": row[:2] + (value,)}, {**NET, "c": row[:2] + ([value],)},
            {**NET, "c": row[:2] + ([None, value],)}, {**NET, "c": row[:2] + (["b", value],)}]


NO_NETS = [one for one in NOTHING_AT_ALL] + [{**NET, "d": ((0, 1), 0, ["e"])}, {**NET, "d": ((0, 1), 0, ["d"])}, {**NET, "d": ((0, 1), 0, ["a", None])}, {**NET, "d": ((0, 1), 0, ["b", "a"])},
                                            {**NET, "d": ((0, 1), 0, ["a", "a"])}, {**NET, "d": ((0, 1), 0, [None, None])}, {**NET, "d": ((0, 1), 0, [])}, {**NET, "d": ((0, 1), 0, (None,))},
                                            {**NET, "d": [(0, 1), 0, [None]]}, {**NET, "d": ((0, 1), 0)}, {**NET, "d": ((0, 1), 0, [None], 1)}, {"A": ((0, 1), 0, [None])},
                                            {"": ((0, 1), 0, [None])}, {1: ((0, 1), 0, [None])}, {"a" * 9: ((0, 1), 0, [None])}, {None: ((0, 1), 0, [None])}, {**NET, "A": ((0, 1), 0, [None])}, {**NET, 1: ((0, 1), 0, [None])}, list(NET.items())]
NO_NETS.extend([one for value in NOTHING_AT_ALL for one in net_without(value) if value not in [None, 2 ** 32, (1, 2), ["a"]]])
NO_NETS.extend([{**NET, "c": (value, 10, [None])} for value in NO_POLICIES])
NO_NETS.extend([{**NET, "c": ((0, 60), value, [None])} for value in NO_BOUNDS])
NO_NODES = [one for one in NOTHING_AT_ALL] + ["d", "A", "", ("a",), ["a"], "ab"]


class WrongArgumentsTest(unittest.TestCase):
    def test_nets(self):
        for value in NO_NETS:
            for call in [lambda: told_run(value, None, None), lambda: greatest_stale(value, None, None), lambda: stale_way(value, None, None), lambda: worst_run(value, None, None),
                         lambda: stale_ranks(value, None), lambda: judge_ranks(value, None, None), lambda: settled_net(value, None, None, None)]:
                check_refused(self, InvalidNet, value, call)

    def test_others(self):
        for value in NO_TIMELINES:
            check_refused(self, InvalidTimeline, value, lambda: told_run(NET, value, None))
        for value in NO_NODES:
            for call in [lambda: greatest_stale(NET, value, None), lambda: stale_way(NET, value, None), lambda: worst_run(NET, value, None), lambda: settled_net(NET, value, None, None)]:
                check_refused(self, UnknownNode, value, call)
        for value in NO_MOMENTS:
            for call in [lambda: greatest_stale(NET, "a", value), lambda: stale_way(NET, "a", value), lambda: worst_run(NET, "a", value), lambda: settled_net(NET, "a", value, None),
                         lambda: stale_ranks(NET, value), lambda: judge_ranks(NET, value, None)]:
                check_refused(self, InvalidNumber, value, call)
            check_refused(self, InvalidMoment, value, lambda: settled_net(NET, "a", 1, value))

    def test_the_sequence_of_a_net_says_nothing(self):
        turned = dict(list(NET.items())[::-1])
        for age in range(3):
            self.assertEqual(stale_ranks(NET, age), stale_ranks(turned, age))
            self.assertEqual(stale_way(NET, "c", age), stale_way(turned, "c", age))


class RunsTest(unittest.TestCase):
    def test_by_hand(self):
        line = [(0, 100, "old"), (1, 100, "new")]
        self.assertEqual([("old", 100), ("old", 30), ("old", 1), ("old", 1)], told_run(NET, line, RUN))
        self.assertEqual([], told_run(NET, line, []))
        self.assertEqual([("new", 60), ("new", 60), ("new", 59), ("new", 40), ("new", 40)],
                         told_run(NET, line, [(1, ["c", "b", "a"], False), (1, ["c"], False), (2, ["c"], False), (61, ["b", "a"], False), (61, ["c", "b"], False)]))
        self.assertEqual([("old", 60), ("new", 60), ("new", 60)], told_run(NET, line, [(0, ["c"], False), (70, ["c"], False), (70, ["b", "a"], False)]))
        # What a node told with left 0 is kept nowhere, whatever the floors are.
        self.assertEqual([("x", 0), ("x", 0), ("x", 0)], told_run(NET, [(0, 0, "x")], [(5, ["b", "a"], False), (5, ["b", "a"], False), (5, ["a"], False)]))
        # In its grace an entry is told with left 1, also if another value is in force.
        self.assertEqual([("old", 10), ("old", 1), ("old", 1), ("new", 10)], told_run(NET, LINE, [(95, ["c"], False), (105, ["c"], True), (114, ["c"], True), (114, ["c"], False)]))

    def test_one_node_is_a_cache(self):
        for grace in [0, 2, None]:
            net = {"x": ((2, 5), grace, [None])}
            line = [(0, 3, "a"), (6, 0, "b"), (9, 1, "c")]
            for seed in range(40):
                chance = random.Random(seed)
                schedule = sorted([chance.randrange(15) for _ in range(6)])
                silence = sorted([chance.randrange(15) for _ in range(6)])
                wanted = told_silent(line, (2, 5), grace, schedule, silence)
                run = []
                for moment, row in zip(schedule, wanted):
                    # As lives are 2 or more here, what is told with left 1 is known by it.
                    fits = [silent for silent in [False, True] if self.told_last(net, line, run + [(moment, ["x"], silent)]) == row]
                    self.assertEqual(row is not None, len(fits) == 1)
                    run.extend([(moment, ["x"], silent) for silent in fits if row is not None])
                self.assertEqual([row for row in wanted if row is not None], told_run(net, line, run))

    def told_last(self, net, line, run):
        """What the last step tells, "none" if it is not so."""
        try:
            return told_run(net, line, run)[-1]
        except InvalidRun as error:
            self.assertEqual(len(run) - 1, error.value)
            return "none"

    def test_each_wrong_step(self):
        wrong = [None, (), (0, ["a"]), (0, ["a"], False, 1), [0, ["a"], False], (0, [], False), (0, ("a",), False), (0, ["d"], False), (0, ["a", "a"], False), (0, ["c", "a"], False),
                 (0, ["b"], False), (0, ["a"], True), (0, ["a"], 0), (0, ["a"], None), (0, ["b", None], False), (0, [["a"]], False), (0, [1], False), (0, ["b", "c"], False)]
        wrong.extend([(value, ["a"], False) for value in NO_MOMENTS])
        wrong.extend([(0, value, False) for value in NOTHING_AT_ALL if value != ["a"]] + [(0, [value], False) for value in NOTHING_AT_ALL] + [(0, ["b", value], False) for value in NOTHING_AT_ALL])
        wrong.extend([(0, ["a"], value) for value in NOTHING_AT_ALL if value is not False])
        for step in wrong:
            with self.assertRaises(InvalidRun) as caught:
                told_run(NET, LINE, [step])
            self.assertEqual(0, caught.exception.value)
        for value in NOTHING_AT_ALL:
            if not isinstance(value, list):
                with self.assertRaises(InvalidRun) as caught:
                    told_run(NET, LINE, value)
                self.assertEqual(0, caught.exception.value)

    def test_each_wrong_place(self):
        line = [(0, 100, "old"), (1, 100, "new")]
        wrong = {0: [(0, ["a"], True), (0, ["b"], False), (0, ["c", "a"], False)],
                 1: [(99, ["b"], False), (99, ["a"], True), (99, ["b", "a"], True), (99, ["c"], True), (99, ["c", "a"], False)],
                 2: [(98, ["c", "b"], False), (128, ["b", "a"], False), (129, ["c", "b"], False), (128, ["c", "b"], True), (128, ["c", "b", "a"], False), (128, ["c"], True)],
                 3: [(138, ["c", "b"], True), (139, ["c"], True), (128, ["c"], True), (138, ["b"], False), (127, ["c"], False), (138, ["b"], True)]}
        for at, steps in wrong.items():
            for step in steps:
                with self.assertRaises(InvalidRun) as caught:
                    told_run(NET, line, RUN[:at] + [step] + RUN[at + 1:])
                self.assertEqual(at, caught.exception.value, step)
                with self.assertRaises(InvalidRun) as caught:
                    told_run(NET, line, RUN[:at] + [step, None])
                self.assertEqual(at, caught.exception.value)
        ring = {"a": ((0, 9), 0, [None, "b"]), "b": ((0, 9), 0, ["a"])}
        for ways in [["a", "b", "a"], ["b", "a", "b"]]:
            with self.assertRaises(InvalidRun):
                told_run(ring, line, [(0, ways, False)])
        # A living entry is told on, and none behind it asks.
        self.assertEqual(4, len(told_run(NET, line, RUN[:3] + [(128, ["c"], False)])))
        self.assertEqual(5, len(told_run(NET, line, RUN + [(138, ["c"], False)])))


class GreatestTest(unittest.TestCase):
    def test_example(self):
        self.assertEqual([[99, 128, 138], ["a", "b", "c"], 145], [[greatest_stale(NET, node, 100) for node in NET], stale_way(NET, "c", 100), settled_net(NET, "c", 100, 7)])
        nets = [{"a": ((floor, 9), 0, [None, "b"]), "b": ((5, 9), 0, ["a"])} for floor in [0, 3]]
        self.assertEqual([12, None], [greatest_stale(net, "b", 9) for net in nets])
        self.assertEqual([["a", "b"], None, 8, 12], [stale_way(nets[0], "b", 9), stale_way(nets[1], "b", 9), greatest_stale(nets[0], "b", 5), greatest_stale(nets[0], "a", 9)])
        self.assertEqual((["a", "b", "a"], None, 112, None), (stale_way(nets[0], "a", 9), worst_run(nets[1], "a", 9), settled_net(nets[0], "a", 9, 100), settled_net(nets[1], "a", 9, 100)))

    def test_by_hand(self):
        ring = {"a": ((0, 9), 0, [None, "c"]), "b": ((0, 9), 0, ["a"]), "c": ((0, 9), 0, ["b"])}
        self.assertEqual([8, 8, 8], list(stale_ranks(ring, 20).values()))
        for node in ring:
            self.assertIsNone(greatest_stale({**ring, node: ring[node][:1] + (1,) + ring[node][2:]}, "a", 1))
            self.assertIsNone(greatest_stale({**ring, node: ring[node][:1] + (None,) + ring[node][2:]}, "b", 1))
            self.assertEqual(0, greatest_stale({**ring, node: ring[node][:1] + (None,) + ring[node][2:]}, "b", 0))
            floored = {**ring, node: ((4, 9),) + ring[node][1:]}
            self.assertEqual([11, 11, 11] if node != "a" else [8, 8, 8], list(stale_ranks(floored, 20).values()))
            self.assertEqual([None] * 3, list(stale_ranks({**floored, "a": ((4, 9), 0, [None, "c"]), "c": ((4, 9), 0, ["b"])}, 20).values()))
        # A ring that is entered at one node has what another one adds.
        fed = {"s": ((0, 9), 0, [None]), "a": ((0, 9), 0, ["c", "s"]), "b": ((4, 9), 0, ["a"]), "c": ((0, 9), 0, ["b"]), "d": ((0, 9), 2, ["a"])}
        self.assertEqual({"s": 8, "a": 11, "b": 11, "c": 11, "d": 13}, stale_ranks(fed, 20))
        self.assertEqual(["s", "a", "b", "c", "a", "d"], stale_way(fed, "d", 20))
        # What lies behind the node, or is led to by nobody from the source, does not count.
        net = {"a": ((0, 9), 0, [None]), "b": ((0, 9), None, ["a"]), "x": ((5, 9), 3, ["y"]), "y": ((5, 9), None, ["x"]), "c": ((2, 9), 1, ["a", "x"])}
        self.assertEqual({"a": 8, "b": None, "x": 0, "y": 0, "c": 10}, stale_ranks(net, 9))
        self.assertEqual([None, None, ["a", "c"]], [stale_way(net, "x", 9), worst_run(net, "y", 9), stale_way(net, "c", 9)])
        self.assertEqual([["a"], ["a", "c"]], [stale_way(net, node, 0) for node in "ac"])
        self.assertEqual([5, 5, None], [settled_net(net, "x", 9, 5), settled_net(net, "c", 0, 5), settled_net(net, "b", 1, 5)])

    def check(self, net, age, horizon=12):
        found = stalest(net, age, horizon)
        for node in net:
            greatest = greatest_stale(net, node, age)
            if greatest is None:
                self.assertGreaterEqual(found[node], horizon - 3)
            else:
                self.assertEqual(found[node], greatest)
            self.check_ways(net, node, age, greatest)
        self.assertEqual({node: greatest_stale(net, node, age) for node in net}, stale_ranks(net, age))

    def check_ways(self, net, node, age, greatest):
        nodes, told = stale_way(net, node, age), worst_run(net, node, age)
        self.assertEqual(nodes is None, told is None)
        if nodes is None:
            self.assertIn(greatest, (0, None))
            return
        self.assertTrue(None in net[nodes[0]][2] and nodes[-1] == node and all([up in net[one][2] for up, one in zip(nodes, nodes[1:])]))
        line, run = told
        self.assertTrue(all([row[1] <= age for row in line]))
        self.assertEqual(node, run[-1][1][0])
        self.assertEqual(greatest, staleness(line, run[-1][0], told_run(net, line, run)[-1][0]))
        if age > 0:
            more = [stale_bound(1, net[one][0], net[one][1]) for one in nodes[1:]]
            self.assertEqual(greatest, stale_bound(age, net[nodes[0]][0], net[nodes[0]][1]) + sum(more))

    def test_small_nets(self):
        for seed in range(260):
            chance = random.Random(seed)
            self.check(random_net(chance, "abc"[:chance.choice([2, 3])], chance.choice([[0], [0, 0, 1], [0, 1, 2, None]])), chance.choice([1, 2]))

    def test_age_0(self):
        for seed in range(60):
            net = random_net(random.Random(seed), "abcd", [0, 1, None])
            for node in net:
                self.assertEqual(0, greatest_stale(net, node, 0))
                self.check_ways(net, node, 0, 0)

    def test_limits(self):
        nodes = "abcdefgh"
        net = {node: ((10 ** 9, 10 ** 9), 10 ** 9, [None] + [other for other in nodes if other < node]) for node in nodes}
        self.assertEqual([(2 * 10 ** 9 - 1) * at for at in range(1, 9)], list(stale_ranks(net, 10 ** 9).values()))
        self.assertEqual(list(nodes), stale_way(net, "h", 1))
        self.check_ways(net, "h", 10 ** 9, 8 * (2 * 10 ** 9 - 1))
        full = {node: ((0, 9), 0, [None] + [other for other in nodes if other != node]) for node in nodes}
        self.assertEqual([8] * 8, list(stale_ranks(full, 9).values()))
        self.assertEqual([8] + [None] * 7, list(stale_ranks({**full, "a": ((2, 9), 0, [None]), "b": ((0, 9), 1, [None, "a", "c"])}, 9).values()))


class RanksTest(unittest.TestCase):
    RANKS = {"a": 99, "b": 128, "c": 138}

    def test_one_thing_changed(self):
        self.assertTrue(judge_ranks(NET, 100, self.RANKS))
        self.assertTrue(judge_ranks(NET, 100, dict(list(self.RANKS.items())[::-1])))
        for node, rank in self.RANKS.items():
            self.assertFalse(judge_ranks(NET, 100, {**self.RANKS, node: rank - 1}))
            self.assertFalse(judge_ranks(NET, 100, {other: one for other, one in self.RANKS.items() if other != node}))
            for value in NOTHING_AT_ALL:
                if value is not None and value != 2 ** 32:
                    self.assertFalse(judge_ranks(NET, 100, {**self.RANKS, node: value}))
        for value in NOTHING_AT_ALL + [list(self.RANKS.items()), {"a": 99, "b": 128, "d": 138}, {**self.RANKS, "d": 1}, {**self.RANKS, None: 1}]:
            self.assertFalse(judge_ranks(NET, 100, value))
        # More is shown as well, if those that ask it tell so much, too; None shows nothing of a node.
        rows = [({"a": 100, "b": 129, "c": 139}, True), ({"a": 100, "b": 128, "c": 138}, False), ({"a": 99, "b": 129, "c": 138}, False), ({"a": 99, "b": 128, "c": 10 ** 50}, True),
                ({"a": None, "b": None, "c": None}, True), ({"a": 99, "b": 128, "c": None}, True), ({"a": 99, "b": None, "c": 138}, False), ({"a": None, "b": 128, "c": 138}, False)]
        for value, wanted in rows:
            self.assertEqual(wanted, judge_ranks(NET, 100, value))
        self.assertTrue(judge_ranks({"a": ((0, 1), 0, [None])}, 1, {"a": 0}))
        self.assertFalse(judge_ranks({"a": ((0, 1), 0, [None])}, 1, {"a": False}))
        self.assertFalse(judge_ranks({"a": ((0, 2), 0, [None])}, 2, {"a": True}))

    def test_graces_without_end(self):
        net = {"a": ((0, 9), None, [None]), "b": ((0, 9), 0, ["a"]), "c": ((0, 9), None, ["b"]), "d": ((0, 9), 0, [None, "c"])}
        self.assertEqual([True, False, False], [judge_ranks(net, 5, value) for value in [dict.fromkeys(net), {**dict.fromkeys(net), "a": 9}, {**dict.fromkeys(net), "d": 10 ** 9}]])
        # For the age 0 the first of a is 0, but more of c is none.
        self.assertTrue(judge_ranks(net, 0, {"a": 0, "b": 0, "c": None, "d": None}))
        self.assertFalse(judge_ranks(net, 0, {"a": 0, "b": 0, "c": 0, "d": 0}))

    def test_rings(self):
        ring = {"a": ((0, 9), 0, [None, "b"]), "b": ((0, 9), 0, ["a"]), "c": ((0, 9), 0, [None])}
        for value in [stale_ranks(ring, 9), dict.fromkeys(ring), {"a": 99, "b": 99, "c": 99}]:
            self.assertFalse(judge_ranks(ring, 9, value))

    def test_by_chance(self):
        for seed in range(150):
            chance = random.Random(seed)
            nodes = "abcd"
            net = {node: row[:2] + ([up for up in row[2] if up is None or up < node] or [None],) for node, row in random_net(chance, nodes, [0, 1, 2, None]).items()}
            ranks = stale_ranks(net, 3)
            self.assertTrue(judge_ranks(net, 3, ranks))
            for node in nodes:
                if ranks[node] is not None:
                    self.assertFalse(judge_ranks(net, 3, {**ranks, node: ranks[node] - 1}))
