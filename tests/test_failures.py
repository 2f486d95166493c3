"""Least sets of machines that keep or stop zones, and stop trees."""

import sys
import unittest
from itertools import combinations

from rootward.errors import InvalidApex, InvalidForest, InvalidNumber, TooMany
from rootward.failures import fewest_to_stop, judge_stop_tree, keeping, safe_against, stop_tree, stopping
from rootward.forests import Forest
from rootward.reach import reached
from tests.sampleforests import NET, ORG, SHOP, random_forest, shop_forest, shop_zones, zone_of
from tests.samples import NOTHING_AT_ALL, nested


def subsets(machines):
    """All sets of some machines, the shorter ones first, then as lists are ordered."""
    return [list(some) for many in range(len(machines) + 1) for some in combinations(machines, many)]


def least(sets):
    """Those of some sets of which no other one is a part."""
    return [some for some in sets if not any([set(other) < set(some) for other in sets])]


def wide_forest(many, deep=2):
    """A forest in which each of some zones has as many servers as there are machines at hand."""
    apexes = [("z",) * index for index in range(deep)]
    zones, served = [], {}
    for index, apex in enumerate(apexes):
        below = apexes[index + 1:index + 2]
        records = [(other, "server", 9, ("n",) + other) for other in below]
        records.extend([(("n",) + other, "addr", 9, (index + 1) * 100 + at) for other in below for at in range(many)])
        zones.append(zone_of(apex, ("n",) + apex, records))
        served.update({index * 100 + at: [apex] for at in range(many)})
    return Forest(zones, served, list(range(many)))


class LeastSetsTest(unittest.TestCase):
    def check(self, forest):
        machines = forest.machines
        kept = {}
        for some in subsets(machines):
            kept[tuple(some)] = reached(forest, up=some)
        for zone in forest.zones:
            keeps = [some for some in subsets(machines) if zone.apex in kept[tuple(some)]]
            stops = [some for some in subsets(machines) if zone.apex not in kept[tuple([one for one in machines if one not in some])]]
            self.assertEqual(least(keeps), keeping(forest, zone.apex))
            self.assertEqual(least(stops), stopping(forest, zone.apex))
            self.check_facts(forest, zone.apex, machines)
            self.assertEqual(stops[0], fewest_to_stop(forest, zone.apex))
            for count in range(len(machines) + 2):
                self.assertEqual(len(stops[0]) > count, safe_against(forest, zone.apex, count))
            tree = stop_tree(forest, zone.apex)
            self.assertTrue(judge_stop_tree(forest, zone.apex, len(stops[0]), tree))
            self.assertTrue(is_tree(keeps, len(stops[0]), [], tree))
            self.assertEqual(len(stops[0]) == 0, tree is None)
            for count in range(len(machines) + 2):
                self.assertEqual(count == len(stops[0]), judge_stop_tree(forest, zone.apex, count, tree))

    def check_facts(self, forest, apex, machines):
        """Facts D1 and D2."""
        keeps, stops = keeping(forest, apex), stopping(forest, apex)
        self.assertEqual(stops, least([some for some in subsets(machines) if all([set(some) & set(other) for other in keeps])]))
        self.assertEqual(keeps, least([some for some in subsets(machines) if all([set(some) & set(other) for other in stops])]))
        for machine in machines:
            if keeps:
                self.assertEqual(all([machine in some for some in keeps]), [machine] in stops)

    def test_by_chance(self):
        for seed in range(40):
            self.check(random_forest(seed, machines=5))

    def test_example(self):
        self.check(shop_forest())
        forest = shop_forest()
        self.assertEqual([[[1], [2], [3]], [[1, 2, 3]], [[1]], [1]], [stopping(forest, SHOP), keeping(forest, SHOP), stopping(forest, ()), fewest_to_stop(forest, ORG)])

    def test_wide(self):
        for many, deep in [(1, 3), (2, 2), (2, 3), (3, 2)]:
            self.check(wide_forest(many, deep))

    def test_never_reached(self):
        forest = Forest(shop_zones(), {1: [()], 2: [NET], 3: [SHOP]}, [1])
        self.assertEqual([[], [[]], [], None], [keeping(forest, ORG), stopping(forest, ORG), fewest_to_stop(forest, ORG), stop_tree(forest, ORG)])
        self.assertEqual([False, False], [safe_against(forest, ORG, count) for count in [0, 5]])
        self.assertEqual([True, False, False], [judge_stop_tree(forest, ORG, count, None) for count in [0, 1, 10 ** 59]])
        self.check(forest)

    def test_twelve_and_thirteen_machines(self):
        forest = wide_forest(4, 3)
        self.assertEqual([64, 3], [len(keeping(forest, ("z", "z"))), len(stopping(forest, ("z", "z")))])
        self.assertEqual([0, 1, 2, 3], fewest_to_stop(forest, ("z", "z")))
        self.assertEqual([True, False], [safe_against(forest, ("z", "z"), count) for count in [3, 4]])
        self.assertTrue(judge_stop_tree(forest, ("z", "z"), 4, stop_tree(forest, ("z", "z"))))
        more = Forest(forest.zones, {**{machine: forest.serves(machine) for machine in forest.machines}, 999: []}, forest.roots)
        for call in [keeping, stopping, fewest_to_stop, stop_tree, lambda one, apex: safe_against(one, apex, 0), lambda one, apex: judge_stop_tree(one, apex, 0, None)]:
            with self.assertRaises(TooMany) as caught:
                call(more, ())
            self.assertEqual(13, caught.exception.value)

    def test_rings_and_servers_without_glue(self):
        a, b = ("a",), ("b",)
        root = zone_of((), ("ns",), [(a, "server", 9, ("n", "b")), (a, "server", 9, ("n", "a")), (("n", "a"), "addr", 9, 2), (b, "server", 9, ("n", "a"))])
        zones = [root, zone_of(a, ("n", "b"), [(("n", "a"), "addr", 9, 3)]), zone_of(b, ("n", "a"), [(("n", "b"), "addr", 9, 4)])]
        forest = Forest(zones, {0: [()], 1: [()], 2: [a], 3: [b], 4: [a]}, [0, 1])
        self.check(forest)
        self.assertEqual([[0, 2], [1, 2]], keeping(forest, a))
        self.assertEqual([[0, 2, 3], [1, 2, 3]], keeping(forest, b))


def is_tree(keeps, many, down, value):
    """Whether a value is a stop tree, by the list of all sets that keep the zone."""
    if many == 0:
        return value is None
    machines, branches = value
    if machines not in keeps or set(machines) & set(down) or [machine for machine, _ in branches] != machines:
        return False
    return all([is_tree(keeps, many - 1, down + [machine], tree) for machine, tree in branches])


class StopTreeTest(unittest.TestCase):
    FOREST = wide_forest(2, 2)
    GOOD = ([0, 100], [(0, ([1, 100], [(1, None), (100, None)])), (100, ([0, 101], [(0, None), (101, None)]))])

    def judged(self, value, count=2):
        return judge_stop_tree(self.FOREST, ("z",), count, value)

    def test_right(self):
        self.assertTrue(self.judged(self.GOOD))
        # A set with a machine too many keeps the zone, too.
        more = ([0, 1, 100], [(0, self.GOOD[1][0][1]), (1, ([0, 100], [(0, None), (100, None)])), (100, self.GOOD[1][1][1])])
        self.assertTrue(self.judged(more))
        self.assertTrue(self.judged(([0, 100], [(0, None), (100, None)]), 1))
        self.assertTrue(self.judged(None, 0))

    def test_one_part_changed(self):
        machines, branches = self.GOOD
        first, second = branches
        wrong = [
            None, list(self.GOOD), (machines,), self.GOOD + (None,), (tuple(machines), branches), (machines, tuple(branches)), ([100, 0], branches[::-1]),
            (machines, branches[::-1]), (machines, branches[:1]), (machines, branches + branches[1:]), ([0], branches[:1]), ([0, 0, 100], [first, first, second]),
            ([False, 100], branches), (machines, [(False, first[1]), second]), (machines, [list(first), second]), (machines, [first + (None,), second]),
            (machines, [(1, first[1]), second]), (machines, [(0, None), second]), (machines, [(0, ([0, 100], [(0, None), (100, None)])), second]),
            (machines, [(0, ([1, 100], [(1, None), (100, ([0, 101], []))])), second]), (machines, [(0, ([1], [(1, None)])), second]), ([0, 7], [first, (7, None)]),
            ([0, 100, 999], branches + [(999, None)]), ([], []), (machines, []), ({}, {}), (machines, [None, second]), (machines, [first, (100, self.GOOD)])]
        for value in wrong + NOTHING_AT_ALL + [nested(list, 99), nested(tuple, 99)]:
            self.assertFalse(self.judged(value), value)
        for count in [0, 1, 3, 4, 10 ** 59]:
            self.assertFalse(self.judged(self.GOOD, count))
        for value in NOTHING_AT_ALL:
            self.assertFalse(self.judged((machines, value)))
            self.assertFalse(self.judged((value, branches)))
            self.assertFalse(self.judged((machines, [(0, value), second])))
            self.assertFalse(self.judged((machines, [(value, first[1]), second])))
            self.assertEqual(value is None, self.judged(value, 0))


def with_idle(forest, idle):
    """A forest with some machines more that serve no zone, or one to which no server leads."""
    served = {machine: forest.serves(machine) for machine in forest.machines}
    return Forest(forest.zones, {**served, **{machine: [] for machine in idle}}, forest.roots)


def deep_forest():
    """Eight zones, one below the other, each with one server, whose glue has five addresses that serve all zones."""
    apexes = [tuple(["z%d" % at for at in range(deep)][::-1]) for deep in range(8)]
    zones = []
    for apex, below in zip(apexes, apexes[1:] + [None]):
        glue = [] if below is None else [(below, "server", 9, ("n",) + below)] + [(("n",) + below, "addr", 9, machine) for machine in range(1, 6)]
        zones.append(zone_of(apex, ("n",) + apex, glue))
    return Forest(zones, {machine: apexes for machine in range(1, 6)}, [1, 2, 3, 4, 5])


def calls_of(call, *arguments):
    """The number of calls of functions that a call makes."""
    found = [0]

    def count(frame, event, told):
        found[0] += event in ("call", "c_call")
    sys.setprofile(count)
    try:
        call(*arguments)
    finally:
        sys.setprofile(None)
    return found[0]


class IdleTest(unittest.TestCase):
    """Machines that make no way to a zone."""

    def told(self, forest, apex):
        return [keeping(forest, apex), stopping(forest, apex), fewest_to_stop(forest, apex), stop_tree(forest, apex), [safe_against(forest, apex, count) for count in range(4)]]

    def test_machine_by_machine(self):
        for forest in [shop_forest(), random_forest(3), random_forest(8), wide_forest(2, 3), Forest(shop_zones(), {1: [()], 2: [NET], 3: [SHOP]}, [1])]:
            wanted = {zone.apex: self.told(forest, zone.apex) for zone in forest.zones}
            others = [machine for machine in [0, 4, 5, 50, 150, 250, 350, 2 ** 32 - 1, 60, 70, 80, 90] if machine not in forest.machines]
            for many in range(13 - len(forest.machines)):
                idle = with_idle(forest, others[:many])
                for apex, told in wanted.items():
                    # An address of the forest may be one of the machines that come, but they serve nothing.
                    self.assertEqual(told, self.told(idle, apex))
                    self.assertEqual(len(told[1][0]) > 0, judge_stop_tree(idle, apex, len(told[1][0]), told[3]) and told[3] is not None)

    def test_machines_that_serve_where_nobody_asks_them(self):
        forest = Forest(shop_zones(), {1: [()], 2: [NET, ORG], 3: [SHOP], 7: [(), NET, ORG, SHOP], 0: [()]}, [1])
        for apex in [(), NET, ORG, SHOP]:
            self.assertEqual(self.told(shop_forest(), apex), self.told(forest, apex))

    def test_trees_with_idle_machines(self):
        forest = with_idle(wide_forest(2, 2), [7, 50])
        apex = ("z",)
        inner = [([1, 100], [(1, None), (100, None)]), ([0, 101], [(0, None), (101, None)])]
        good = ([0, 100], [(0, inner[0]), (100, inner[1])])
        more = ([0, 7, 50, 100], [(0, inner[0]), (7, ([0, 50, 100], [(0, None), (50, None), (100, None)])), (50, ([0, 101], [(0, None), (101, None)])), (100, inner[1])])
        self.assertEqual([True, True], [judge_stop_tree(forest, apex, 2, tree) for tree in [good, more]])
        machines, branches = more
        wrong = [([0, 7, 100], branches[:2]), ([0, 7, 50, 99, 100], branches[:3] + [(99, inner[0])] + branches[3:]), ([0, 7, 50], branches[:3]), ([7, 50], branches[1:3]), (machines, branches[:1] + branches[2:]),
                 (machines, [branches[0], (7, ([0, 7, 100], [(0, None), (7, None), (100, None)]))] + branches[2:]), (machines, [branches[0], (7, None)] + branches[2:]), ([7, 0, 50, 100], branches)]
        for tree in wrong:
            self.assertFalse(judge_stop_tree(forest, apex, 2, tree))
        for machine in [7, 50, 8]:
            tree = (sorted([0, 100, machine]), sorted([(0, inner[0]), (100, inner[1]), (machine, good)], key=lambda row: row[0]))
            self.assertEqual(machine != 8, judge_stop_tree(forest, apex, 2, (tree[0], [(one, row if one != machine else ([0, 100], [(0, None), (100, None)])) for one, row in tree[1]])))

    def test_thirteen_machines(self):
        root = Forest([zone_of((), ("ns",), [])], {machine: [()] if machine == 5 else [] for machine in range(13)}, [5])
        for call in [keeping, stopping, fewest_to_stop, stop_tree, lambda one, apex: safe_against(one, apex, 0), lambda one, apex: judge_stop_tree(one, apex, 0, None)]:
            with self.assertRaises(TooMany) as caught:
                call(root, ())
            self.assertEqual(13, caught.exception.value)
        twelve = Forest(root.zones, {machine: root.serves(machine) for machine in range(12)}, [5])
        self.assertEqual([[[5]], [[5]]], [keeping(twelve, ()), stopping(twelve, ())])

    def test_against_all_sets(self):
        for seed in range(25):
            LeastSetsTest.check(self, with_idle(random_forest(seed, machines=4), [0, 6, 7]))

    check_facts = LeastSetsTest.check_facts

    def test_idle_machines_cost_nothing(self):
        forest = deep_forest()
        more, apex = with_idle(forest, range(6, 13)), forest.zones[-1].apex
        tree = stop_tree(forest, apex)
        self.assertEqual([self.told(forest, apex), True], [self.told(more, apex), judge_stop_tree(more, apex, 5, tree)])
        for call, arguments in [(keeping, []), (stopping, []), (fewest_to_stop, []), (stop_tree, []), (safe_against, [3]), (judge_stop_tree, [0, None]), (judge_stop_tree, [5, tree])]:
            self.assertLess(calls_of(call, more, apex, *arguments), calls_of(call, forest, apex, *arguments) * 3 // 2)

    def test_one_tree_is_judged_by_its_own_sets(self):
        wide = wide_forest(4, 3)
        apex = ("z", "z")
        # All sets of twelve machines would be 4,096.
        self.assertLess(calls_of(judge_stop_tree, wide, apex, 0, None), 2500)
        self.assertLess(calls_of(judge_stop_tree, wide, apex, 1, ([0, 100, 200], [(0, None), (100, None), (200, None)])), 2500)
        self.assertTrue(judge_stop_tree(wide, apex, 1, ([0, 100, 200], [(0, None), (100, None), (200, None)])))


class ErrorsTest(unittest.TestCase):
    CALLS = [keeping, stopping, fewest_to_stop, stop_tree, lambda forest, apex: safe_against(forest, apex, -1), lambda forest, apex: judge_stop_tree(forest, apex, -1, None)]

    def raises(self, error, value, call, *arguments):
        with self.assertRaises(error) as caught:
            call(*arguments)
        self.assertEqual(value, caught.exception.value)

    def test_in_sequence(self):
        many = wide_forest(13, 1)
        for value in NOTHING_AT_ALL:
            for call in self.CALLS:
                self.raises(InvalidForest, value, call, value, "no apex")
                if value != ():
                    self.raises(InvalidApex, value, call, many, value)
        for value in [-1, True, False, None, "1", [1], (1,), {}, -10 ** 59]:
            self.raises(InvalidNumber, value, safe_against, many, (), value)
            self.raises(InvalidNumber, value, judge_stop_tree, many, (), value, None)
        self.raises(TooMany, 13, safe_against, many, (), 10 ** 59)
