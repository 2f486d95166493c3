"""Names between two others, and what gaps show of all names."""

import random
import unittest
from bisect import bisect_left, bisect_right
from itertools import product

from rootward.allgaps import between, fewest, first_between, first_untold, told
from rootward.answers import answer
from rootward.errors import InvalidGap, InvalidKind, InvalidName, InvalidNumber, OutOfZone
from rootward.gaps import gaps, shown
from rootward.labels import compared, first, is_asked, names_of, nth_label, size
from rootward.namesets import counts
from rootward.zonenames import with_word
from tests import plaingaps
from tests.samples import NOTHING_AT_ALL, random_zone, shop_zone, small_names, zone_with

NET = ("net",)
ENDS = "0123456789abcdefghijklmnopqrstuvwxyz"
LABELS = {1: list(ENDS), 2: [one + other for one in ENDS for other in ENDS],
          3: [one + inner + other for one in ENDS for inner in "-" + ENDS for other in ENDS]}
# All names of a size, with their last labels ahead, in order.
OF_SIZE = {0: [], 1: [()], 2: [], 3: [(label,) for label in LABELS[1]], 4: [(label,) for label in LABELS[2]],
           5: sorted([(label,) for label in LABELS[3]] + list(product(LABELS[1], LABELS[1])))}


class BetweenTest(unittest.TestCase):
    def plain(self, one, other, number):
        """Return how many names of a size are between two, and the first of them."""
        listed = OF_SIZE[number]
        low = bisect_right(listed, one[::-1])
        high = len(listed) if other is None else bisect_left(listed, other[::-1])
        return (high - low, listed[low][::-1]) if low < high else (0, None)

    def check(self, one, other):
        found = first_between(one, other)
        if found is not None:
            self.assertTrue(is_asked(found) and compared(one, found) == -1)
            self.assertTrue(other is None or compared(found, other) == -1)
            smaller = [number for number in range(size(found)) if number < 9 or number > size(found) - 3]
            self.assertEqual([0] * len(smaller), [between(one, other, number) for number in smaller])
            self.assertGreater(between(one, other, size(found)), 0)
            self.assertEqual(0, between(one, found, size(found)))
        names = []
        for number in range(6):
            many, name = self.plain(one, other, number)
            self.assertEqual(many, between(one, other, number), (one, other, number))
            names.extend([name] if many else [])
        if names:
            self.assertEqual(names[0], found)
        elif found is not None:
            self.assertGreater(size(found), 5)
        return found

    def test_by_hand(self):
        long = "x" * 20
        for one, other, name in [
                ((), ("0", "0"), ("0",)), ((), ("*", "0"), ("0",)), (("a",), ("0", "a0"), ("a0",)), (("a",), ("x", "y", "b"), ("b",)),
                (("*", "a"), ("k", "0", "a"), ("0", "a")), (("0", "a"), ("*", "1", "a"), ("1", "a")),
                ((), None, ("0",)), ((), ("0",), None), (("a",), ("b",), ("a0",)), (("a",), ("0", "a"), None), (("z",), None, ("z0",)),
                (("a",), ("00", "a"), ("0", "a")), (("0", "a"), ("00", "a"), ("0", "0", "a")), (("*", "a"), ("0", "a"), None),
                (("a",), ("*", "a"), None), (("*",), ("1",), ("0",)), (("*", "a"), None, ("b",)), (("a", "b"), ("a", "b"), None),
                (("b",), ("a",), None), ((long,), ("y",), ("xy",)), ((long,), (long[:-1] + "y",), ("0", long)),
                (("a",), ("a0",), ("0", "a")), (("9",), ("a",), ("90",)), (("a-b",), ("a0",), ("a-c",)), (("zz",), None, ("zz0",)),
                ((long, "a"), ("b",), ("a0",)), ((long, "a"), ("a0",), ("y", "a")),
                (("z" * 20,), None, ("0", "z" * 20)), (("0", "z" * 20), ("1", "z" * 20), ("00", "z" * 20))]:
            self.assertEqual(name, self.check(one, other), (one, other))

    def test_numbers_by_hand(self):
        for one, other, number, many in [
                ((), None, 0, 0), ((), None, 1, 0), ((), None, 3, 36), (("a",), None, 3, 25), (("*",), None, 3, 36), ((), ("a",), 3, 10),
                (("a",), ("c",), 3, 1), (("a",), ("b",), 4, 36), (("a",), ("b",), 5, 36 + 37 * 36), (("*", "a"), ("b",), 5, 36 + 37 * 36),
                (("a",), ("a",), 5, 0), (("b",), ("a",), 5, 0), (("n",), ("*", "n"), 5, 0), (("0", "a"), ("2", "a"), 5, 1)]:
            self.assertEqual(many, between(one, other, number), (one, other, number))

    def test_by_chance(self):
        chance = random.Random(7)

        def label():
            sort = chance.randrange(7)
            return chance.choice(LABELS[sort // 2 + 1]) if sort < 6 else chance.choice(["a" * 20, "z" * 20, "0" * 20, "a-b-c", "0--0", "z" + "-" * 18 + "z"])

        def name():
            found = tuple([label() for _ in range(chance.randrange(4))])
            return ("*",) + found if chance.random() < 0.2 else found

        for _ in range(130):
            one, other = name(), chance.choice([name(), name(), name(), None])
            plain = one[1:] if one[:1] == ("*",) else one
            for end in [other, ("0",) + plain, ("00",) + plain, plain[1:]]:
                self.check(one, end)

    def test_great_sizes(self):
        for number in [6, 17, 22, 23, 199, 200]:
            for name in [("n",), ("a-b", "x" * 20), ("z" * 20, "z" * 20), ("b",) * 12]:
                own = 1 if size(name) == number else 0
                self.assertEqual(names_of(number), between((), name, number) + own + between(name, None, number))
                self.assertEqual(between(name, None, number), between(("*",) + name, None, number))
                # Behind a label the next one is as long as may be: between them are just the names below the first one.
                below = names_of(number - size(name) - 1) if number > size(name) + 2 else 0
                self.assertEqual(below, between(("k",) + name, ("k" + "-" * 18 + "0",) + name, number))

    def test_long_names(self):
        above = ("x" * 20,) * 11
        name, beside = ("x" * 20,) + above, ("x" * 19 + "y",) + above
        for other, expected in [(("y",) + above, ("xy",) + above), (("1",) + name, ("0",) + name), (("0",) + name, None),
                                (beside, ("0",) + name), (("x" * 19 + "z",) + above, beside)]:
            self.assertEqual(expected, first_between(name, other))
        self.assertEqual([0, 0, 36, 1296], [between(name, beside, number) for number in range(253, 257)])
        self.assertEqual([0, 0, 1, 36], [between(name, ("1",) + name, number) for number in range(253, 257)])


class UntoldTest(unittest.TestCase):
    ONE_SIGN = [nth_label(index) for index in range(36)]

    def names_near(self, zone):
        return [name + zone.apex for name in small_names(["0", "a", "b", "q"], 3)]

    def is_nothing(self, zone, name, kind):
        return answer(zone, name, kind)[0] in ("absent", "empty")

    def check(self, zone, part, kind):
        found = first_untold(zone, part, kind)
        untold = [name for name in self.names_near(zone) if self.is_nothing(zone, name, kind) and not shown(zone.apex, part, name, kind)]
        if found is None:
            self.assertEqual([], untold)
        else:
            self.assertTrue(self.is_nothing(zone, found, kind))
            self.assertIsNone(plaingaps.shown(zone.apex, part, found, kind))
            self.assertEqual(found, first(untold + [found]))
        return found

    def parts(self, zone, seed):
        """Return some lists of gaps of a zone."""
        chance = random.Random(seed)
        listed = gaps(zone)
        return [[], listed, [gap for gap in listed if chance.random() < 0.5], listed[:-1], listed[1:] * 2, listed[::-1][:3]]

    def test_by_chance(self):
        for seed in range(25):
            zone = random_zone(seed)
            for part in self.parts(zone, seed):
                for kind in ["addr", "text", "alias", "server"]:
                    self.check(zone, part, kind)
            for kind in ["addr", "text", "server", "start"]:
                self.assertIsNone(first_untold(zone, gaps(zone), kind))

    def test_by_hand(self):
        zone = shop_zone()
        listed = gaps(zone)
        for part, kind, name in [
                (listed, "addr", None), ([], "addr", NET), (listed[:1], "addr", ("al", "net")), (listed[1:], "text", NET),
                (listed[:1] + listed[2:], "text", ("0", "net")), (listed[:1] + listed[2:], "addr", None),
                (listed[:-1], "addr", ("0", "www", "net")), (listed[:-1], "text", ("x", "net")), (listed[:2], "text", ("b", "net"))]:
            self.assertEqual(name, self.check(zone, part, kind), (part, kind))

    def test_labels_between(self):
        long = "a" * 19
        for labels, name in [
                (["a", "b"], ("a0",)), (["a", "c"], ("b",)), (["za-a", "zb"], ("za0",)), (["za-a", "zc"], ("zb",)),
                ([long + "a", long + "c"], (long + "b",)), ([long + "a", long + "b"], ("0", long + "a"))]:
            zone = zone_with((), [((label,), "addr", 5, 1) for label in labels])
            part = [gap for gap in gaps(zone) if gap[0] != (labels[0],)]
            self.assertEqual(name, first_untold(zone, part, "addr"))

    def test_told_in_all(self):
        for seed in range(12):
            zone = random_zone(seed)
            for kind in ["addr", "text"]:
                absent, empty = counts(with_word(zone, kind, "absent"), 26), counts(with_word(zone, kind, "empty"), 26)
                for number in range(27):
                    self.assertEqual(absent[number] + empty[number], told(zone, gaps(zone), kind, number))
                    self.assertEqual(0, told(zone, [], kind, number))

    def test_told_by_parts(self):
        for seed in range(25):
            zone = random_zone(seed)
            names = [zone.apex] + [(label,) + zone.apex for label in self.ONE_SIGN]
            for part in self.parts(zone, seed):
                shows = [size(name) for name in names if shown(zone.apex, part, name, "addr")]
                for number in range(size(zone.apex) + 3):
                    self.assertEqual(shows.count(number), told(zone, part, "addr", number))

    def test_told_two_labels(self):
        zone = zone_with((), [(("a", "b"), "addr", 5, 1), (("c",), "text", 5, "x"), (("*", "c"), "text", 5, "x"), (("t",), "tree", 5, ())])
        names = [name[::-1] for name in OF_SIZE[5]]
        for part in self.parts(zone, 5)[1:4:2]:
            self.assertEqual(len([name for name in names if shown((), part, name, "text")]), told(zone, part, "text", 5))

    def test_great_sizes(self):
        zone = shop_zone()
        for number in [100, 199, 200]:
            absent, empty = counts(with_word(zone, "text", "absent"), number), counts(with_word(zone, "text", "empty"), number)
            self.assertEqual(absent[number] + empty[number], told(zone, gaps(zone), "text", number))


class FewestTest(unittest.TestCase):
    def test_shortest(self):
        for seed in range(40):
            zone = random_zone(seed)
            listed = gaps(zone)
            if len(listed) > 8:
                continue
            chance = random.Random(seed)
            names = [name + zone.apex for name in small_names(["0", "a", "b", "q"], 2)]
            for kind in ["addr", "text"]:
                some = chance.sample(names, 4)
                words = [answer(zone, name, kind)[0] for name in some]
                wanted = [(name, word) for name, word in zip(some, words) if word in ("absent", "empty")]
                expected = plaingaps.shortest(zone.apex, listed, [name for name, _ in wanted], kind, [word for _, word in wanted])
                self.assertEqual(expected, [fewest(zone, some, kind)])

    def test_many_names(self):
        for seed in range(20):
            zone = random_zone(seed)
            names = [name + zone.apex for name in small_names(["0", "a", "b", "q"], 3)][::3][:40]
            part = fewest(zone, names, "text")
            self.assertEqual([gap for gap in gaps(zone) if gap in part], part)
            for name in names:
                self.assertEqual(answer(zone, name, "text")[0] in ("absent", "empty"), shown(zone.apex, part, name, "text") is not None)
            self.assertEqual(part, fewest(zone, names * 2, "text"))

    def test_by_hand(self):
        zone = shop_zone()
        listed = gaps(zone)
        self.assertEqual([], fewest(zone, [], "addr"))
        self.assertEqual([], fewest(zone, [("www", "net"), ("x", "old", "net"), ("q", "net"), ("lab", "net")], "addr"))
        self.assertEqual([listed[0], listed[-1]], fewest(zone, [("x", "www", "net"), NET], "addr"))


class WrongTest(unittest.TestCase):
    def check(self, error, value, call):
        with self.assertRaises(error) as caught:
            call()
        self.assertEqual(value, caught.exception.value)

    def test_names_between(self):
        for value in NOTHING_AT_ALL + [("a", "*"), "a"]:
            self.check(InvalidName, value, lambda: first_between(value, ["later"]))
            self.check(InvalidName, value, lambda: between(value, ["later"], -1))
            if value is not None:
                self.check(InvalidName, value, lambda: first_between((), value))
                self.check(InvalidName, value, lambda: between((), value, -1))

    def test_numbers(self):
        zone = zone_with((), [])
        for value in [-1, -200, -10 ** 59]:
            for call in [lambda: between((), None, value), lambda: between(("b",), ("a",), value), lambda: told(zone, [], "addr", value)]:
                self.check(InvalidNumber, value, call)

    def test_gaps(self):
        zone = shop_zone()
        listed = gaps(zone)
        others = [listed[0][:2] + ((),), (listed[0][0], listed[2][0], listed[0][2]), list(listed[0]), listed[0] + (1,), ((), NET, ())]
        for wrong in NOTHING_AT_ALL + others + gaps(zone_with((), [])):
            for part in [[wrong, ["later"]], listed + [wrong]]:
                self.check(InvalidGap, wrong, lambda: first_untold(zone, part, "no kind"))
                self.check(InvalidGap, wrong, lambda: told(zone, part, "no kind", -1))

    def test_names_and_kinds(self):
        zone = zone_with(NET, [])
        for value in NOTHING_AT_ALL + [("*",), ("*", "net")]:
            self.check(InvalidName, value, lambda: fewest(zone, [NET, (), value, ["later"]], "no kind"))
        for value in [(), ("org",), ("net", "a")]:
            self.check(OutOfZone, value, lambda: fewest(zone, [NET, value, ("later",)], "no kind"))
        for value in NOTHING_AT_ALL + ["none", ("addr",)]:
            for call in [lambda: fewest(zone, [NET], value), lambda: fewest(zone, [], value),
                         lambda: first_untold(zone, [], value), lambda: told(zone, [], value, -1)]:
                self.check(InvalidKind, value, call)


class LimitsTest(unittest.TestCase):
    def test_60_records_and_40_gaps(self):
        names = [tuple([nth_label(index * number) for index in range(12, 0, -1)]) for number in range(7, 65)]
        zone = zone_with((), [(name, "addr", 5, 1) for name in names])
        listed = gaps(zone)
        self.assertGreater(len(listed), 500)
        self.assertIsNone(first_untold(zone, listed, "addr"))
        part = listed[100:140]
        untold = first_untold(zone, part, "text")
        self.assertEqual([((), "empty"), None], [(untold, answer(zone, untold, "text")[0]), shown((), part, untold, "text")])
        self.assertEqual(names_of(200), told(zone, listed, "addr", 200))
        some = [("new",) + name[3:] for name in names[:40]]
        shows = fewest(zone, some, "addr")
        self.assertTrue(all([shown((), shows, name, "addr") == "absent" for name in some]))
        self.assertLessEqual(len(shows), 80)
