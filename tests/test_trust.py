"""Zones that bad machines can take, and what is told wrong."""

import random
import unittest
from itertools import combinations

from rootward.errors import InvalidApex, InvalidForest, InvalidMachines, InvalidTelling
from rootward.forests import Forest, home
from rootward.reach import reached
from rootward.trust import counts, judge_take_steps, least_takers, sound, take_steps, takeable, wrong_names
from tests import plainforests
from tests.plainly import under
from tests.sampleforests import NET, NN, NO, ORG, SHOP, WWW, random_forest, shop_forest, shop_zones, zone_of
from tests.samples import NOTHING_AT_ALL, nested


def some_bad(forest):
    """Some lists of bad machines, foreign ones too."""
    return [list(some) for many in range(3) for some in combinations([0] + forest.machines + [6, 77], many)]


class TakeableTest(unittest.TestCase):
    def test_by_hand(self):
        forest = shop_forest()
        rows = [([], []), ([1], [(), NET, SHOP, ORG]), ([2], [NET, SHOP, ORG]), ([3], [SHOP]), ([9], []), ([3, 9], [SHOP])]
        for bad, apexes in rows:
            self.assertEqual(apexes, takeable(forest, bad))
        self.assertEqual([], takeable(forest, None))
        self.assertEqual([[1], [1, 2], [1, 2, 3], [1, 2]], [least_takers(forest, apex) for apex in [(), NET, SHOP, ORG]])
        # Known addresses count of foreign machines too, but these take nothing alone that is listed.
        foreign = Forest(shop_zones(), {1: [()], 2: [NET, ORG]}, [1])
        self.assertEqual([[SHOP], [1, 2]], [takeable(foreign, [3]), least_takers(foreign, SHOP)])

    def test_least_set(self):
        for seed in range(40):
            forest = random_forest(seed)
            slow = plainforests.Plain(forest)
            for bad in some_bad(forest):
                wanted = slow.takeable(bad)
                self.assertEqual(sorted(wanted, key=lambda name: name[::-1]), takeable(forest, bad))
                good = [machine for machine in forest.machines if machine not in bad]
                for apex in slow.records:
                    steps = take_steps(forest, bad, apex)
                    self.assertEqual(apex in wanted, steps is not None)
                    if steps is not None:
                        self.assertTrue(judge_take_steps(forest, bad, apex, steps))
                        self.assertTrue(self.are_right(slow, bad, apex, steps))
                    self.assertEqual(apex in slow.reached(good), sound(forest, bad, apex))
            for apex in slow.records:
                self.assertEqual([machine for machine in forest.machines if apex in slow.takeable([machine])], least_takers(forest, apex))

    def are_right(self, slow, bad, apex, steps):
        shown = []
        for step in steps:
            if step[0] == "root":
                is_right, found = step[1] in slow.roots and step[1] in bad, ()
            elif step[0] == "parent":
                is_right, found = slow.parent(step[1]) in shown, step[1]
            else:
                rows = [row for row in slow.known(step[1]) if row[0] == step[2]]
                found = step[1]
                if step[0] == "machine":
                    is_right = any([step[3] in row[2] for row in rows]) and step[3] in bad
                else:
                    is_right = any([not row[1] for row in rows]) and step[3] in slow.homes(step[2], "addr") and step[3] in shown
            if not is_right:
                return False
            shown.append(found)
        return shown[-1] == apex

    def test_sound(self):
        forest = shop_forest()
        self.assertEqual([True, False, True, True], [sound(forest, bad, ORG) for bad in [[], [2], [3], None]])
        self.assertEqual([True, False, True], [sound(forest, bad, ()) for bad in [[2, 3], [1], [0, 99]]])

    def test_steps_of_each_kind(self):
        forest = shop_forest()
        good = [
            (ORG, [2], [("machine", ORG, NN, 2)]), (ORG, [2], [("machine", NET, NN, 2), ("server", ORG, NN, NET)]), (NET, [1], [("root", 1), ("parent", NET)]),
            (SHOP, [3], [("machine", SHOP, NO, 3)]), (SHOP, [2], [("machine", ORG, NN, 2), ("server", SHOP, NO, ORG)]),
            (SHOP, [1], [("root", 1), ("parent", ORG), ("parent", NET), ("parent", SHOP)]), (NET, [1], [("root", 1), ("root", 1), ("parent", NET), ("parent", NET)]),
            (NET, [1, 2], [("root", 1), ("machine", NET, NN, 2), ("parent", NET)]), ((), [1], [("root", 1)])]
        for apex, bad, steps in good:
            self.assertTrue(judge_take_steps(forest, bad, apex, steps), steps)
            for at in range(len(steps)):
                for other in [None, list(steps[at]), steps[at][:-1], steps[at] + (1,), ("x",) + steps[at][1:], steps[at][:-1] + ("x",), steps[at][:-1] + (True,), ("parent", ()),
                              ("root", 2), ("machine", SHOP, NN, 3), ("server", NET, NN, NET), ("parent", WWW), ("machine", (), ("ns",), 1)]:
                    self.assertFalse(judge_take_steps(forest, bad, apex, steps[:at] + [other] + steps[at + 1:]), other)
            self.assertFalse(judge_take_steps(forest, [], apex, steps))
            self.assertFalse(judge_take_steps(forest, bad, apex, tuple(steps)))
            self.assertEqual(len({str(step) for step in steps}) < len(steps), judge_take_steps(forest, bad, apex, steps[1:]))
        self.assertFalse(judge_take_steps(forest, [1], NET, [("root", 1), ("parent", NET), ("parent", ORG)]))
        for value in NOTHING_AT_ALL + [[value] for value in NOTHING_AT_ALL] + [nested(list, 99), [nested(tuple, 99)]]:
            self.assertFalse(judge_take_steps(forest, [1, 2, 3], NET, value))


class TellingsTest(unittest.TestCase):
    WWW_SET = (WWW, "addr", 9, (9,))
    OTHER = (WWW, "addr", 9, (10,))

    def test_good_machines(self):
        forest = shop_forest()
        rows = [
            ((SHOP, 3, [self.WWW_SET]), True), ((SHOP, 3, []), True), ((SHOP, 2, [self.WWW_SET]), False), ((SHOP, 2, []), False), ((SHOP, 99, []), False),
            ((SHOP, 3, [self.OTHER]), False), ((SHOP, 3, [self.WWW_SET, self.OTHER]), False), ((SHOP, 3, [(WWW, "addr", 8, (9,))]), False),
            ((SHOP, 3, [(WWW, "text", 9, ("x",))]), False), ((NET, 2, [(NN, "addr", 9, (2,))]), True), (((), 1, [(NN, "addr", 9, (2,))]), False),
            (((), 1, [(("ns",), "addr", 9, (1,))]), True), ((NET, 2, [(SHOP, "server", 9, (NO,))]), False), ((NET, 2, [self.WWW_SET]), False),
            ((ORG, 2, [(NO, "addr", 9, (3,))]), True), ((NET, 2, [(NO, "addr", 9, (3,))]), False)]
        for telling, does in rows:
            self.assertEqual(does, counts(forest, [], telling), telling)
            self.assertEqual(does, counts(forest, None, telling))
            self.assertEqual([], wrong_names(forest, [], [telling]))
            self.assertEqual([], wrong_names(forest, [], [telling], strict=False))

    def test_bad_machines(self):
        forest = shop_forest()
        rows = [
            ([3], (SHOP, 3, [self.OTHER]), True), ([3], (ORG, 3, [self.OTHER]), False), ([3], ((), 3, []), False), ([3], (NET, 3, []), False),
            ([1], ((), 1, [self.OTHER]), True), ([1], (NET, 1, [self.OTHER]), True), ([1, 99], (SHOP, 99, [self.OTHER]), True), ([99], (SHOP, 99, [self.OTHER]), False),
            ([2, 99], ((), 99, []), False), ([2, 99], (ORG, 99, []), True), ([2, 99], (NET, 99, []), False), ([2], (NET, 2, []), True), ([2, 99], (SHOP, 99, []), True)]
        for bad, telling, does in rows:
            self.assertEqual(does, counts(forest, bad, telling), (bad, telling))

    def test_wrong_names(self):
        forest = shop_forest()
        out = [(("a", "org"), "addr", 5, (1,)), self.OTHER, (SHOP, "text", 5, ("x",)), self.WWW_SET, (("*", "shop", "net"), "addr", 5, (1,))]
        tellings = [(SHOP, 3, out), (ORG, 3, out), (NET, 2, [(NN, "addr", 9, (2,))]), (SHOP, 3, out[:1])]
        self.assertEqual([SHOP, ("*", "shop", "net"), WWW], wrong_names(forest, [3], tellings))
        self.assertEqual([SHOP, ("*", "shop", "net"), WWW, ("a", "org")], wrong_names(forest, [3], tellings, strict=False))
        self.assertEqual([], wrong_names(forest, [], tellings, strict=False))
        self.assertEqual([], wrong_names(forest, [3], [], strict=False))
        self.assertEqual([], wrong_names(forest, [3], [(SHOP, 3, [self.WWW_SET])]))

    def test_names_of_wild_sets(self):
        zones = shop_zones()
        zones[3] = zones[3].with_records([(("*", "shop", "net"), "addr", 9, 4)])
        forest = Forest(zones, {1: [()], 2: [NET, ORG], 3: [SHOP]}, [1])
        wild = (("*", "shop", "net"), "addr", 9, (4,))
        self.assertTrue(counts(forest, [], (SHOP, 3, [wild])))
        self.assertEqual([], wrong_names(forest, [3], [(SHOP, 3, [wild])]))
        self.assertEqual([("*", "shop", "net")], wrong_names(forest, [3], [(SHOP, 3, [wild[:3] + ((5,),)])]))

    def test_by_chance(self):
        for seed in range(40):
            forest = random_forest(seed)
            slow = plainforests.Plain(forest)
            chance = random.Random(seed)
            apexes = [zone.apex for zone in forest.zones]
            sets = [entry for zone in forest.zones for entry in zone.sets()]
            for _ in range(12):
                bad = sorted(chance.sample(forest.machines + [77], chance.randrange(4)))
                tellings = []
                for _ in range(6):
                    apex = chance.choice(apexes)
                    told = chance.sample(sets, 2) if chance.random() < 0.5 else [chance.choice(forest.zone(apex).sets())]
                    told = [entry[:2] + (entry[2] + (chance.random() < 0.2),) + entry[3:] for entry in told]
                    tellings.append((apex, chance.choice(forest.machines + [0, 77]), told))
                for telling in tellings:
                    self.assertEqual(self.does_count(slow, forest, bad, telling), counts(forest, bad, telling), (seed, bad, telling))
                for strict in [True, False]:
                    wrong = {entry[0] for telling in tellings if counts(forest, bad, telling) for entry in telling[2]
                             if (not strict or under(entry[0], telling[0])) and not self.is_so(forest, entry, home(forest, entry[0]))}
                    found = wrong_names(forest, bad, tellings, strict=strict)
                    self.assertEqual(sorted(wrong, key=lambda name: name[::-1]), found)
                    if strict:
                        # Fact B3.
                        self.assertTrue(all([any([under(name, apex) for apex in takeable(forest, bad)]) for name in found]))

    def is_so(self, forest, entry, apex):
        return entry in forest.zone(apex).sets()

    def does_count(self, slow, forest, bad, telling):
        apex, machine, sets = telling
        if machine not in bad:
            return apex in forest.serves(machine) and all([slow.home(entry[0]) == apex and self.is_so(forest, entry, apex) for entry in sets])
        if apex == ():
            return machine in forest.roots
        taken = slow.takeable(bad)
        rows = slow.known(apex)
        return slow.parent(apex) in taken or any([machine in row[2] or (not row[1] and slow.homes(row[0], "addr") & taken) for row in rows])

    def test_tellings_that_are_none(self):
        forest = shop_forest()
        good = (SHOP, 3, [self.WWW_SET])
        wrong = [
            list(good), good[:2], good + (1,), (WWW, 3, []), (list(SHOP), 3, []), (("*",), 3, []), (SHOP, True, []), (SHOP, -1, []), (SHOP, 2 ** 32, []), (SHOP, "3", []),
            (SHOP, 3, ()), (SHOP, 3, None), (SHOP, 3, [list(self.WWW_SET)]), (SHOP, 3, [(WWW, "addr", 9, ())]), (SHOP, 3, [(WWW, "addr", 9, (2, 1))]),
            (SHOP, 3, [(WWW, "addr", True, (1,))]), (SHOP, 3, [(WWW, "addr", 9, (True,))]), (SHOP, 3, [(WWW, "addr", 9, [1])]), (SHOP, 3, [(WWW, "adr", 9, (1,))]),
            (SHOP, 3, [(("a", "*"), "addr", 9, (1,))]), (SHOP, 3, [self.WWW_SET, None])]
        for value in wrong + NOTHING_AT_ALL + [nested(list, 99)]:
            with self.assertRaises(InvalidTelling) as caught:
                counts(forest, [3], value)
            self.assertEqual(value, caught.exception.value)
            for at in range(3):
                tellings = [good, good]
                tellings[at:at] = [value]
                with self.assertRaises(InvalidTelling) as caught:
                    wrong_names(forest, [3], tellings + [None])
                self.assertEqual(at, caught.exception.value)

    def test_no_list_of_tellings(self):
        for value in [None, 5, (), {}, "x"]:
            with self.assertRaises(InvalidTelling) as caught:
                wrong_names(shop_forest(), [3], value)
            self.assertEqual(0, caught.exception.value)

    def test_errors_in_sequence(self):
        forest = shop_forest()
        with_apex = [take_steps, sound, lambda one, bad, apex: judge_take_steps(one, bad, apex, None)]
        without = [takeable, lambda one, bad: counts(one, bad, None), lambda one, bad: wrong_names(one, bad, [None])]
        for value in NOTHING_AT_ALL + [shop_zones()]:
            for call in with_apex + without:
                with self.assertRaises(InvalidForest) as caught:
                    call(*[value, "bad", "apex"][:3 if call in with_apex else 2])
                self.assertEqual(value, caught.exception.value)
            if value is not None and value != []:
                for call in with_apex + without:
                    with self.assertRaises(InvalidMachines) as caught:
                        call(*[forest, value, "apex"][:3 if call in with_apex else 2])
                    self.assertEqual(value, caught.exception.value)
            if value != ():
                for call in with_apex + [lambda one, bad, apex: least_takers(one, apex)]:
                    with self.assertRaises(InvalidApex) as caught:
                        call(forest, [1], value)
                    self.assertEqual(value, caught.exception.value)
        self.assertEqual(reached(forest), [apex for apex in [(), NET, SHOP, ORG] if sound(forest, None, apex)])
        self.assertEqual([], least_takers(Forest([zone_of((), NN, [])], {5: []}, [5]), ())[1:])
