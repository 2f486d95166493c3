"""Zones that are reached, ways, blocks and prices."""

import unittest
from itertools import combinations, permutations

from rootward.errors import InvalidApex, InvalidForest, InvalidMachines, InvalidName
from rootward.forests import Forest
from rootward.reach import block_of, findable, judge_block, judge_prices, judge_way, prices, reached, way_to
from tests import plainforests
from tests.sampleforests import NET, NN, NO, ORG, SHOP, WWW, random_forest, shop_forest, shop_zones, zone_of
from tests.samples import NOTHING_AT_ALL, nested

ROOT_STEP, NET_STEP, ORG_STEP, SHOP_STEP = ("root", 1), ("zone", NET, NN, 2), ("zone", ORG, NN, 2), ("zone", SHOP, NO, 3)
WAY = [ROOT_STEP, NET_STEP, ORG_STEP, SHOP_STEP]


def some_ups(forest):
    """None, and some sets of machines."""
    return [None] + [list(some) for many in range(len(forest.machines) + 1) for some in combinations(forest.machines, many)][::3]


class ReachedTest(unittest.TestCase):
    def test_by_hand(self):
        forest = shop_forest()
        self.assertEqual([(), NET, SHOP, ORG], reached(forest))
        rows = [([1], [()]), ([1, 2], [(), NET, ORG]), ([1, 3], [()]), ([2, 3], []), ([], []), ([1, 2, 3, 9], [(), NET, SHOP, ORG]), ([9], [])]
        for up, apexes in rows:
            self.assertEqual(apexes, reached(forest, up=up))
        self.assertEqual([True, False, False], [findable(forest, WWW, "addr", up=up) for up in [None, [1, 2], []]])
        self.assertEqual([True, True, True], [findable(forest, name, "addr", up=[1, 2]) for name in [NN, NO, ("q",)]])

    def test_least_set(self):
        for seed in range(50):
            forest = random_forest(seed)
            slow = plainforests.Plain(forest)
            for up in some_ups(forest):
                machines = forest.machines if up is None else up
                self.assertEqual(slow.reached(machines), {apex for apex in reached(forest, up=up)})
                self.assertEqual(sorted(reached(forest, up=up), key=lambda name: name[::-1]), reached(forest, up=up))
                for apex in slow.records:
                    for name in [apex, ("w",) + apex, ("n",) + apex]:
                        self.assertEqual(slow.homes(name, "addr") <= slow.reached(machines), findable(forest, name, "addr", up=up))

    def test_broken_chases_are_findable(self):
        root = zone_of((), ("ns",), [(NET, "server", 9, NN), (("w",), "alias", 9, ("x", "net")), (("l",), "alias", 9, ("l",))])
        forest = Forest([root], {1: [()]}, [1])
        self.assertEqual([True, True, False], [findable(forest, name, "addr") for name in [("w",), ("l",)]] + [findable(forest, ("w",), "addr", up=[])])

    def test_rings_of_servers(self):
        a, b = ("a",), ("b",)
        root = zone_of((), ("ns",), [(a, "server", 9, ("n", "b")), (b, "server", 9, ("n", "a"))])
        zones = [root, zone_of(a, ("n", "b"), [(("n", "a"), "addr", 9, 2)]), zone_of(b, ("n", "a"), [(("n", "b"), "addr", 9, 2)])]
        forest = Forest(zones, {1: [()], 2: [a, b]}, [1])
        self.assertEqual([[()], [a, b], [((), 1)]], [reached(forest), block_of(forest, a), prices(forest)])
        self.assertEqual([True, False, False], [judge_block(forest, a, block) for block in [[a, b], [a], [b]]])


class WaysTest(unittest.TestCase):
    def test_way_or_block(self):
        for seed in range(50):
            forest = random_forest(seed)
            slow = plainforests.Plain(forest)
            for up in some_ups(forest):
                machines = forest.machines if up is None else up
                for apex in slow.records:
                    way, block = way_to(forest, apex, up=up), block_of(forest, apex, up=up)
                    self.assertEqual([apex in slow.reached(machines), apex not in slow.reached(machines)], [way is not None, block is not None])
                    if way is not None:
                        self.assertTrue(judge_way(forest, apex, way, up=up))
                        self.check_way(slow, apex, way, machines)
                    else:
                        self.assertTrue(judge_block(forest, apex, block, up=up))
                        self.assertTrue(apex in block and slow.is_block(block, machines))
                        self.assertEqual([other for other in slow.records if other not in slow.reached(machines)], block)

    def check_way(self, slow, apex, way, up):
        shown = [step[1] if step[0] == "zone" else () for step in way]
        self.assertEqual([apex, len(set(shown)), "root"], [shown[-1], len(shown), way[0][0]])
        for at, step in enumerate(way):
            self.assertTrue(slow.is_right_step(step, shown[:at], up))

    def test_each_way_of_the_example(self):
        forest = shop_forest()
        for many in range(5):
            for steps in permutations(WAY, many):
                for apex, last in [((), ROOT_STEP), (NET, NET_STEP), (ORG, ORG_STEP), (SHOP, SHOP_STEP)]:
                    needed = {ROOT_STEP: [], NET_STEP: [ROOT_STEP], ORG_STEP: [ROOT_STEP, NET_STEP], SHOP_STEP: [NET_STEP, ORG_STEP]}
                    is_right = steps[-1:] == (last,) and all([one in steps[:at] for at, step in enumerate(steps) for one in needed[step]])
                    self.assertEqual(is_right, judge_way(forest, apex, list(steps)), steps)
        self.assertEqual([ROOT_STEP, NET_STEP, ORG_STEP], way_to(forest, ORG))
        self.assertEqual([[ROOT_STEP], WAY], [way_to(forest, ()), way_to(forest, SHOP)])

    def test_wrong_ways(self):
        forest = shop_forest()
        wrong = [
            WAY[:3] + WAY[2:], [ROOT_STEP] + WAY, tuple(WAY), WAY[:3] + [list(SHOP_STEP)], WAY[:3] + [SHOP_STEP[:3]], WAY[:3] + [SHOP_STEP + (3,)],
            WAY[:3] + [("zone", SHOP, NO, 2)], WAY[:3] + [("zone", SHOP, NN, 3)], WAY[:3] + [("zone", list(SHOP), NO, 3)], WAY[:3] + [("Zone", SHOP, NO, 3)],
            [("root", True)] + WAY[1:], [("root", 2)] + WAY[1:], [("root", 1, 1)] + WAY[1:], [("root",)] + WAY[1:], ["root"] + WAY[1:], [("zone", (), ("ns",), 1)] + WAY[1:],
            [], {0: ROOT_STEP}, None, WAY + [None], [None] + WAY]
        for value in wrong + NOTHING_AT_ALL + [[value] for value in NOTHING_AT_ALL] + [nested(list, 99), [nested(tuple, 99)]]:
            self.assertFalse(judge_way(forest, SHOP, value), value)
        self.assertFalse(judge_way(forest, SHOP, WAY, up=[1, 2]))
        self.assertFalse(judge_way(forest, SHOP, WAY, up=[2, 3]))
        self.assertTrue(judge_way(forest, SHOP, WAY, up=[1, 2, 3]))
        one = Forest(shop_zones(), {0: [()], 1: [()], 2: [NET, ORG], 3: [SHOP]}, [0, 1])
        self.assertEqual([True, True, False, False], [judge_way(one, (), [("root", value)]) for value in [0, 1, False, True]])

    def test_all_blocks(self):
        for seed in range(25):
            forest = random_forest(seed)
            slow = plainforests.Plain(forest)
            apexes = [zone.apex for zone in forest.zones]
            for up in [forest.machines, forest.machines[:2], []]:
                for many in range(len(apexes) + 1):
                    for block in combinations(apexes, many):
                        for apex in apexes[:3]:
                            self.assertEqual(apex in block and slow.is_block(block, up), judge_block(forest, apex, list(block), up=up))

    def test_wrong_blocks(self):
        forest = shop_forest()
        up = [1, 3]
        self.assertTrue(judge_block(forest, ORG, [NET, SHOP, ORG], up=up))
        wrong = [
            [ORG, SHOP, NET], [NET, ORG, SHOP], [NET, SHOP, ORG, ORG], [NET, NET, SHOP, ORG], (NET, SHOP, ORG), [list(NET), SHOP, ORG], [NET, SHOP, list(ORG)],
            [NET, SHOP], [(), NET, SHOP, ORG], [("com",), NET, SHOP, ORG], [NET, SHOP, ORG, ("z",)], [NET, SHOP, ORG, None], {NET: 1, SHOP: 1, ORG: 1}, []]
        for value in wrong + NOTHING_AT_ALL + [[value] for value in NOTHING_AT_ALL] + [[ORG, value] for value in NOTHING_AT_ALL]:
            self.assertFalse(judge_block(forest, ORG, value, up=up), value)
        self.assertFalse(judge_block(forest, ORG, [NET, SHOP, ORG]))
        self.assertTrue(judge_block(forest, (), [()], up=[]))
        self.assertTrue(judge_block(forest, ORG, [ORG], up=[1, 3]))


class PricesTest(unittest.TestCase):
    def test_by_chance(self):
        for seed in range(60):
            forest = random_forest(seed)
            slow = plainforests.Plain(forest)
            for up in some_ups(forest):
                found = prices(forest, up=up)
                self.assertEqual(slow.prices(forest.machines if up is None else up), dict(found))
                self.assertEqual(reached(forest, up=up), [apex for apex, _ in found])
                self.assertTrue(judge_prices(forest, found, up=up))

    def test_parent_that_is_a_home(self):
        # The server of shop.net. lies in its parent, of which the price counts twice then.
        zones = [zone_of((), ("ns",), [(NET, "server", 9, NN), (NN, "addr", 9, 2)]), zone_of(NET, NN, [(NN, "addr", 9, 2), (SHOP, "server", 9, NN)]), zone_of(SHOP, NN, [])]
        forest = Forest(zones, {1: [()], 2: [NET, SHOP]}, [1])
        self.assertEqual([((), 1), (NET, 2), (SHOP, 5)], prices(forest))

    def test_judge(self):
        forest = shop_forest()
        good = [((), 1), (NET, 2), (SHOP, 7), (ORG, 4)]
        self.assertTrue(judge_prices(forest, good))
        self.assertFalse(judge_prices(forest, good, up=[1, 2]))
        for at in range(4):
            apex, price = good[at]
            for other in [(apex, price + 1), (apex, price - 1), (apex, str(price)), [apex, price], (apex, price, price), (apex,), (list(apex), price), (WWW, price), None]:
                self.assertFalse(judge_prices(forest, good[:at] + [other] + good[at + 1:]), other)
            self.assertFalse(judge_prices(forest, good[:at] + good[at + 1:]))
            self.assertFalse(judge_prices(forest, good[:at] + good[at:at + 1] + good[at:]))
        for value in [good[::-1], tuple(good), dict(good), [((), True)] + good[1:], good[:2] + good[3:] + good[2:3], []] + NOTHING_AT_ALL:
            self.assertFalse(judge_prices(forest, value), value)
        self.assertEqual([True, False], [judge_prices(forest, value, up=[]) for value in [[], ()]])
        self.assertEqual([True, False], [judge_prices(forest, [((), value)], up=[1]) for value in [1, True]])


class ErrorsTest(unittest.TestCase):
    CALLS = [lambda forest, apex, up: way_to(forest, apex, up=up), lambda forest, apex, up: judge_way(forest, apex, None, up=up),
             lambda forest, apex, up: block_of(forest, apex, up=up), lambda forest, apex, up: judge_block(forest, apex, None, up=up)]
    PLAIN = [lambda forest, up: reached(forest, up=up), lambda forest, up: prices(forest, up=up), lambda forest, up: judge_prices(forest, None, up=up),
             lambda forest, up: findable(forest, WWW, "addr", up=up)]

    def raises(self, error, value, call, *arguments):
        with self.assertRaises(error) as caught:
            call(*arguments)
        self.assertEqual(value, caught.exception.value)

    def test_in_sequence(self):
        forest = shop_forest()
        for value in NOTHING_AT_ALL + [shop_zones()]:
            for call in self.CALLS:
                self.raises(InvalidForest, value, call, value, "no apex", "no machines")
                if value != ():
                    self.raises(InvalidApex, value, call, forest, value, "no machines")
            for call in self.PLAIN:
                self.raises(InvalidForest, value, call, value, "no machines")
        for value in [value for value in NOTHING_AT_ALL if value is not None and value != []] + [[2, 1], [1, 1], [True], (1,), [1, "2"], {1: 1}]:
            for call in self.CALLS:
                self.raises(InvalidMachines, value, call, forest, NET, value)
            for call in self.PLAIN:
                self.raises(InvalidMachines, value, call, forest, value)
        self.raises(InvalidName, ("*",), lambda: findable(forest, ("*",), "adr", up=[True]))

    def test_unhashable_and_foreign_apexes(self):
        forest = shop_forest()
        for value in [list(NET), {}, [NET], WWW, ("*",), ("com",), NN]:
            for call in self.CALLS:
                self.raises(InvalidApex, value, call, forest, value, None)
