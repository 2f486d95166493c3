"""Changes of books of records."""

import random
import unittest

from rootward.changes import applies, back, changed, changed_zone, is_change
from rootward.errors import InvalidDeed, InvalidRecord, InvalidZone, OutOfZone, UnlikeAges
from rootward.records import first_unlike, records_of, sets_of
from rootward.serials import further
from tests.samples import DATA, KINDS, NOTHING_AT_ALL, Stranger, nested, shop_zone, start_at, zone_with

A, B, C, NET = ("a",), ("b",), ("c",), ("net",)
WILD = ("*", "a")
BOOK = [(A, "addr", 5, 1), (A, "addr", 5, 2), (A, "text", 7, "x"), (B, "text", 9, "x"), (WILD, "mail", 3, (1, A))]
CONDITIONS = [("there", A), ("free", WILD), ("has", A, "addr"), ("lacks", WILD, "tree"), ("just", A, "addr", (1, 2)),
              ("just", A, "mail", ((1, B), (2, A)))]
DEEDS = [("add", (A, "addr", 7, 3)), ("take", A, "addr", 1), ("take", WILD, "mail", (1, A)), ("clear", B, "text"), ("drop", B)]


def plain_book(records):
    """Return a book as a dict of ages and dicts of data."""
    book = {}
    for name, kind, age, data in records:
        book.setdefault((name, kind), [age, set()])[1].add(data)
    return book


def plain_holds(book, condition):
    word, name, rest = condition[0], condition[1], condition[2:]
    there = any([key[0] == name for key in book])
    if word in ("there", "free"):
        return there if word == "there" else not there
    datas = book.get((name, rest[0]), [0, set()])[1]
    return {"has": len(datas) > 0, "lacks": len(datas) == 0, "just": word == "just" and datas == set(rest[-1])}[word]


def plain_behind(records, change):
    """Return the sets behind a change, deed by deed."""
    book = plain_book(records)
    if all([plain_holds(book, condition) for condition in change[0]]):
        for deed in change[1]:
            if deed[0] == "add":
                name, kind, age, data = deed[1]
                book.setdefault((name, kind), [age, set()])[1].add(data)
                book[name, kind][0] = age
            elif deed[0] == "take" and deed[1:3] in book:
                book[deed[1:3]][1].discard(deed[3])
            elif deed[0] == "clear":
                book.pop(deed[1:3], None)
            elif deed[0] == "drop":
                for key in [key for key in book if key[0] == deed[1]]:
                    book.pop(key)
            for key in [key for key in book if not book[key][1]]:
                book.pop(key)
    return sets_of([key + (age, data) for key, (age, datas) in book.items() for data in datas])


def random_change(chance):
    """Return a change of few names and kinds."""
    names, kinds = [A, B, WILD], ["addr", "text"]
    datas = {"addr": [1, 2, 3], "text": ["x", "y"]}
    conditions, deeds = [], []
    for _ in range(chance.choice([0, 0, 1, 2])):
        name, kind = chance.choice(names), chance.choice(kinds)
        some = tuple(sorted(chance.sample(datas[kind], chance.choice([1, 2]))))
        conditions.append(chance.choice([("there", name), ("free", name), ("has", name, kind), ("lacks", name, kind), ("just", name, kind, some)]))
    for _ in range(chance.randrange(7)):
        name, kind = chance.choice(names), chance.choice(kinds)
        data = chance.choice(datas[kind])
        deeds.append(chance.choice([("add", (name, kind, chance.randrange(5, 8), data)), ("add", (name, kind, chance.randrange(5, 8), data)),
                                    ("take", name, kind, data), ("clear", name, kind), ("drop", name)]))
    return (conditions, deeds)


def random_book(chance):
    """Return a list of records, some of them several times, in no order."""
    ages = {(name, kind): chance.randrange(5, 8) for name in [A, B, WILD] for kind in ["addr", "text"]}
    records = []
    for _ in range(chance.randrange(9)):
        key = chance.choice(list(ages))
        records.append(key + (ages[key], chance.choice([1, 2, 3] if key[1] == "addr" else ["x", "y"])))
    return records


class IsChangeTest(unittest.TestCase):
    def test_changes(self):
        self.assertTrue(is_change(([], [])))
        self.assertTrue(is_change((CONDITIONS, DEEDS)))
        self.assertTrue(is_change((CONDITIONS * 50, DEEDS * 50)))
        for kind in KINDS:
            for data in DATA[kind]:
                self.assertTrue(is_change(([("just", WILD, kind, (data,))], [("take", WILD, kind, data), ("add", (WILD, kind, 5, data))])))
            self.assertTrue(is_change(([("just", A, kind, tuple(DATA[kind]))], [])))
            self.assertFalse(is_change(([("just", A, kind, tuple(DATA[kind][::-1]))], [])))

    def test_parts_changed(self):
        for at, entries in enumerate([CONDITIONS, DEEDS]):
            for entry in entries:
                for place in range(len(entry)):
                    for wrong in NOTHING_AT_ALL + ["none", "addrs", ("*", "*"), (A,), [], Stranger(), nested(list, 99)]:
                        if wrong != entry[place] and not (entry[:3] == ("just", A, "addr") and wrong in [(1,), (1, 2), (1, 2, 3, 4)]):
                            self.check_wrong(at, entry[:place] + (wrong,) + entry[place + 1:])
                for wrong in [list(entry), entry + (1,), entry + (A,), entry[:-1] if entry[0] != "just" else entry[:2], (entry,), [entry], entry[1:]]:
                    self.check_wrong(at, wrong)

    def check_wrong(self, at, entry):
        """Check that an entry makes no change, neither alone nor among others, and is told."""
        for entries in [[entry], [CONDITIONS, DEEDS][at] + [entry], [entry] + [CONDITIONS, DEEDS][at]]:
            change = (entries, DEEDS) if at == 0 else (CONDITIONS, entries)
            self.assertFalse(is_change(change), entry)
        for call in [applies, changed, back]:
            with self.assertRaises(InvalidDeed) as caught:
                call(BOOK, change)
            self.assertEqual(entry, caught.exception.value)

    def test_wrong_entries(self):
        for entry in [("there", A, "addr"), ("free", A, "addr"), ("has", A), ("lacks", A), ("just", A, "addr"), ("just", A, "addr", ()),
                      ("just", A, "addr", (2, 1)), ("just", A, "addr", (1, 1)), ("just", A, "addr", [1, 2]), ("just", A, "addr", (1, "x")),
                      ("just", A, "addr", (1, True)), ("just", A, "mail", ((1, B), (1, A))), ("just", A, "text", "x"), ("just", A, "text", ("y", "x")),
                      ("just", A, "alias", (("a", "b"), ("b", "a"))), ("has", A, "Addr"), ("There", A), ("add", BOOK[0]), ("clear", A, "addr"), ()]:
            self.check_wrong(0, entry)
        for entry in [("add", (A, "addr", 5, True)), ("add", (A, "addr", 5)), ("add", A, "addr", 5, 1), ("add",), ("take", A, "addr"),
                      ("take", A, "addr", "x"), ("take", A, "addr", 1, 1), ("take", A, "addr", True), ("clear", A), ("clear", A, "addr", 1),
                      ("drop", A, "addr"), ("drop",), ("there", A), ("has", A, "addr"), ("just", A, "addr", (1,)), ("add", A), ("drop", BOOK[0]), ()]:
            self.check_wrong(1, entry)

    def test_no_changes(self):
        more = [(), ([],), ([], [], []), ([], ()), ((), []), [[], []], {0: []}, ([], None), (None, []), ([], {}), "ab"]
        for value in [one for one in NOTHING_AT_ALL if one != ([], [])] + more:
            self.assertFalse(is_change(value))


class AppliesTest(unittest.TestCase):
    def test_each_condition(self):
        for condition, expected in [
                (("there", A), True), (("there", WILD), True), (("there", C), False), (("there", ("x", "a")), False), (("there", ()), False),
                (("free", A), False), (("free", C), True), (("free", ("*", "b")), True), (("has", A, "addr"), True), (("has", A, "mail"), False),
                (("has", C, "addr"), False), (("lacks", A, "addr"), False), (("lacks", A, "mail"), True), (("lacks", C, "addr"), True),
                (("just", A, "addr", (1, 2)), True), (("just", A, "addr", (1,)), False), (("just", A, "addr", (1, 2, 3)), False),
                (("just", A, "addr", (1, 3)), False), (("just", A, "mail", ((1, A),)), False), (("just", WILD, "mail", ((1, A),)), True),
                (("just", C, "text", ("x",)), False)]:
            self.assertIs(expected, applies(BOOK, ([condition], [])), condition)
            self.assertIs(expected, applies(BOOK[::-1] + BOOK, ([("there", B), condition], [])), condition)
            self.assertIs(False, applies(BOOK, ([condition, ("there", C)], [])))
        self.assertIs(True, applies([], ([], [])))
        self.assertIs(True, applies(BOOK, ([], DEEDS)))

    def test_deeds_do_not_count(self):
        self.assertFalse(applies(BOOK, ([("there", C)], [("add", (C, "addr", 1, 1))])))
        self.assertTrue(applies(BOOK, ([("there", A)], [("drop", A)])))


class ChangedTest(unittest.TestCase):
    def test_each_deed_alone(self):
        addr, text, other, mail = sets_of(BOOK)[0], sets_of(BOOK)[1], sets_of(BOOK)[3], sets_of(BOOK)[2]
        self.assertEqual([addr, text, mail, other], sets_of(BOOK))
        for deed, sets in [
                (("add", (A, "addr", 5, 3)), [(A, "addr", 5, (1, 2, 3)), text, mail, other]),
                (("add", (A, "addr", 8, 3)), [(A, "addr", 8, (1, 2, 3)), text, mail, other]),
                (("add", (A, "addr", 8, 1)), [(A, "addr", 8, (1, 2)), text, mail, other]),
                (("add", (A, "addr", 5, 1)), [addr, text, mail, other]),
                (("add", (A, "addr", 5, 0)), [(A, "addr", 5, (0, 1, 2)), text, mail, other]),
                (("add", ((), "tree", 1, A)), [((), "tree", 1, (A,)), addr, text, mail, other]),
                (("add", (WILD, "mail", 3, (0, B))), [addr, text, (WILD, "mail", 3, ((0, B), (1, A))), other]),
                (("take", A, "addr", 1), [(A, "addr", 5, (2,)), text, mail, other]), (("take", A, "addr", 3), [addr, text, mail, other]),
                (("take", A, "text", "x"), [addr, mail, other]), (("take", C, "text", "x"), [addr, text, mail, other]),
                (("clear", A, "addr"), [text, mail, other]), (("clear", A, "mail"), [addr, text, mail, other]),
                (("drop", A), [mail, other]), (("drop", B), [addr, text, mail]), (("drop", C), [addr, text, mail, other]),
                (("drop", WILD), [addr, text, other])]:
            self.assertEqual(sets, changed(BOOK, ([], [deed])), deed)
            self.assertEqual(sets_of(BOOK), changed(BOOK, ([("there", C)], [deed])))

    def test_rows_of_deeds(self):
        for deeds, sets in [
                ([("add", (A, "addr", 5, 1)), ("add", (A, "addr", 6, 2))], [(A, "addr", 6, (1, 2))]),
                ([("add", (A, "addr", 5, 1)), ("take", A, "addr", 1)], []), ([("take", A, "addr", 1), ("add", (A, "addr", 5, 1))], [(A, "addr", 5, (1,))]),
                ([("add", (A, "addr", 5, 1)), ("clear", A, "addr"), ("add", (A, "addr", 9, 2))], [(A, "addr", 9, (2,))]),
                ([("add", (A, "addr", 5, 1)), ("drop", A), ("take", A, "addr", 1)], []),
                ([("add", (A, "addr", 5, 1)), ("add", (A, "text", 6, "x")), ("drop", A), ("add", (A, "text", 7, "y"))], [(A, "text", 7, ("y",))])]:
            self.assertEqual(sets, changed([], ([], deeds)))
            self.assertEqual(sets, plain_behind([], ([], deeds)))

    def test_no_zone_is_needed(self):
        book = [(A, "alias", 5, B), (A, "alias", 5, C), (A, "start", 5, (A, 1, 2, 3, 4, 5)), (WILD, "server", 5, A)]
        self.assertEqual(sets_of(book), changed(book, ([], [])))
        self.assertEqual([], changed(book, ([], [("drop", A), ("drop", WILD)])))

    def test_by_chance(self):
        applied = []
        for seed in range(1500):
            chance = random.Random(seed)
            book, change = random_book(chance), random_change(chance)
            self.assertTrue(is_change(change))
            sets = changed(book, change)
            self.assertEqual(plain_behind(book, change), sets)
            applied.append(applies(book, change))
            if not applied[-1]:
                self.assertEqual(sets_of(book), sets)
            leads_back = back(book, change)
            self.assertTrue(is_change(leads_back))
            self.assertEqual(sets_of(book), changed(records_of(sets), leads_back))
            self.check_back(sets_of(book), sets, leads_back)
        self.assertTrue(200 < applied.count(True) < 1300)

    def check_back(self, ahead, behind, change):
        """Check the deeds that lead back, set by set."""
        expected = []
        old, new = {entry[:2]: entry for entry in ahead}, {entry[:2]: entry for entry in behind}
        for name, kind in [entry[:2] for entry in sets_of([key + (1, DATA[key[1]][0]) for key in set(old) | set(new)])]:
            before, after = old.get((name, kind)), new.get((name, kind))
            if before == after:
                continue
            if before is None:
                expected.append(("clear", name, kind))
                continue
            datas = after[3] if after else ()
            expected.extend([("take", name, kind, data) for data in datas if data not in before[3]])
            lacking = [data for data in before[3] if data not in datas]
            if lacking or before[2] != after[2]:
                expected.extend([("add", (name, kind, before[2], data)) for data in lacking or before[3][:1]])
        self.assertEqual(([], expected), change)


class BackTest(unittest.TestCase):
    def test_by_hand(self):
        for deeds, expected in [
                ([], []), ([("add", (A, "addr", 5, 1))], []), ([("add", (A, "addr", 6, 1))], [("add", (A, "addr", 5, 1))]),
                ([("add", (A, "addr", 6, 0))], [("take", A, "addr", 0), ("add", (A, "addr", 5, 1))]), ([("add", (A, "addr", 5, 0))], [("take", A, "addr", 0)]),
                ([("take", A, "addr", 2)], [("add", (A, "addr", 5, 2))]), ([("clear", A, "addr")], [("add", (A, "addr", 5, 1)), ("add", (A, "addr", 5, 2))]),
                ([("add", (C, "addr", 5, 1))], [("clear", C, "addr")]),
                ([("drop", B), ("add", (B, "mail", 1, (1, A)))], [("clear", B, "mail"), ("add", (B, "text", 9, "x"))]),
                ([("drop", A), ("add", (A, "addr", 5, 9)), ("add", (A, "addr", 8, 8))],
                 [("take", A, "addr", 8), ("take", A, "addr", 9), ("add", (A, "addr", 5, 1)), ("add", (A, "addr", 5, 2)), ("add", (A, "text", 7, "x"))])]:
            self.assertEqual(([], expected), back(BOOK, ([], deeds)))
            self.assertEqual(([], []), back(BOOK, ([("there", C)], deeds)))

    def test_of_back(self):
        for seed in range(200):
            chance = random.Random(seed)
            book, change = random_book(chance), random_change(chance)
            sets = changed(book, change)
            leads_back = back(book, change)
            self.assertEqual(sets, changed(book, back(records_of(sets), leads_back)))


class ZoneTest(unittest.TestCase):
    def test_serial_goes_on(self):
        zone = shop_zone()
        www = ("www", "net")
        for deed in [("add", (www, "addr", 300, 22)), ("add", (www, "addr", 301, 20)), ("take", www, "addr", 20), ("clear", www, "text"), ("drop", www),
                     ("add", (NET, "server", 60, ("m",)))]:
            found = changed_zone(zone, ([], [deed]))
            self.assertEqual(2, found.serial)
            self.assertEqual(records_of(changed(zone.records(), ([], [deed]))), found.with_serial(1).records())
            self.assertIsNone(first_unlike(found.records(), found.with_serial(2).records()))

    def test_serial_stays(self):
        zone = shop_zone()
        for change in [([], []), ([], [("drop", C + NET)]), ([("free", NET)], [("drop", ("www", "net"))]),
                       ([], [("take", ("www", "net"), "text", "hi"), ("add", (("www", "net"), "text", 30, "hi"))])]:
            self.assertEqual(zone, changed_zone(zone, change))

    def test_start_changes(self):
        zone = zone_with(NET, [])
        name, kind, age, data = start_at(NET)
        for other in [(name, kind, age + 1, data), (name, kind, age, data[:1] + (7,) + data[2:]), (name, kind, age, data[:5] + (51,))]:
            deeds = [("clear", NET, "start"), ("add", other), ("add", (A + NET, "addr", 5, 1))]
            found = changed_zone(zone, ([], deeds))
            self.assertEqual(other[3][1], found.serial)
            self.assertIn(other, found.records())
            self.assertEqual(3, len(found))

    def test_start_that_comes_again(self):
        zone = zone_with(NET, [])
        deeds = [("clear", NET, "start"), ("add", start_at(NET))]
        self.assertEqual(zone, changed_zone(zone, ([], deeds)))
        self.assertEqual(2, changed_zone(zone, ([], deeds + [("add", (A + NET, "addr", 5, 1))])).serial)

    def test_round_the_circle(self):
        for serial in [0, 2 ** 31 - 1, 2 ** 31, 2 ** 32 - 2, 2 ** 32 - 1]:
            zone = zone_with(NET, [], serial=serial)
            found = changed_zone(zone, ([], [("add", (A + NET, "addr", 5, 1))]))
            self.assertEqual(further(serial, 1), found.serial)
        self.assertEqual(0, found.serial)

    def test_errors(self):
        zone = zone_with(NET, [(A + NET, "addr", 5, 1)])
        for deeds, error, value in [
                ([("add", (B, "addr", 5, 1)), ("add", (A, "addr", 5, 1))], OutOfZone, A), ([("drop", NET), ("add", (B, "text", 5, "x"))], OutOfZone, B),
                ([("drop", NET)], InvalidZone, [(NET, "no server"), (NET, "no start")]),
                ([("add", (A + NET, "alias", 5, B))], InvalidZone, [(A + NET, "alias")]), ([("clear", NET, "start")], InvalidZone, [(NET, "no start")]),
                ([("add", start_at(NET, serial=5))], InvalidZone, [(NET, "start")]),
                ([("add", (B, "addr", 5, 1)), "wrong"], InvalidDeed, "wrong")]:
            with self.assertRaises(error) as caught:
                changed_zone(zone, ([], deeds))
            self.assertEqual(value, caught.exception.value)
        self.assertEqual(zone, changed_zone(zone, ([("free", NET)], [("drop", NET), ("add", (B, "addr", 5, 1))])))


class WrongTest(unittest.TestCase):
    def check(self, error, value, call):
        with self.assertRaises(error) as caught:
            call()
        self.assertEqual(value, caught.exception.value)

    def test_records(self):
        good = (A, "addr", 1, 5)
        for call in [applies, changed, back]:
            for value in NOTHING_AT_ALL + [(A, "addr", 1, True), [A, "addr", 1, 5]]:
                self.check(InvalidRecord, value, lambda: call([good, value, ["later"], (A, "addr", 2, 5)], (["wrong"], ["wrong"])))
            unlike = [(B, "addr", 1, 5), (B, "addr", 2, 5), (A, "text", 1, "x"), (A, "text", 2, "x")]
            self.check(UnlikeAges, (A, "text"), lambda: call(unlike, (["wrong"], ["wrong"])))
            self.check(UnlikeAges, (B, "addr"), lambda: call(unlike[:2], (["wrong"], ["wrong"])))

    def test_first_entries(self):
        zone = shop_zone()
        for call in [lambda change: applies(BOOK, change), lambda change: changed(BOOK, change), lambda change: back(BOOK, change),
                     lambda change: changed_zone(zone, change)]:
            self.check(InvalidDeed, ["b"], lambda: call((CONDITIONS + [["b"], ["c"]], [["d"]])))
            self.check(InvalidDeed, ["d"], lambda: call((CONDITIONS, DEEDS + [["d"], ["e"]])))
            self.check(InvalidDeed, ("drop", A), lambda: call(([("drop", A)], [("there", A)])))
            self.check(InvalidDeed, ("there", A), lambda: call(([], [("there", A)])))
