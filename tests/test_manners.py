"""What is passed stays as it was, what comes out is new, and arguments go by their names."""

import copy
import unittest

from rootward import (
    allgaps, allmoves, answers, changes, gaps, labels, moves, namesets, records, serials, zonenames, zones)
from rootward.errors import InvalidName, InvalidNames, InvalidZone, TreeError
from rootward.moves import Moves
from rootward.namesets import Names, under
from rootward.zones import Zone
from tests.manners import Manners, seen, spoil
from tests.samples import NOTHING_AT_ALL, nested, shop_zone, start_at

NET, WWW = ("net",), ("www", "net")
BASE = [start_at(NET), (NET, "server", 60, ("n",))]
ADDRS = [(WWW, "addr", 5, 2), (WWW, "addr", 5, 1), (NET, "mail", 6, (1, WWW))]
SETS = [(WWW, "addr", 5, (1, 2)), (NET, "mail", 6, ((1, WWW),))]
ROWS = [(False, [("a", 1), ("b", 0)], 0), (True, [("c", 1)], 0)]
MOVES = [("tree", ("org",), NET), ("alias", WWW, ("w",)), ("tree", ("x",), ("y", "x"))]
GAPS = [(NET, WWW, ("server", "start")), (WWW, NET, ())]
CHANGE = ([("there", WWW), ("just", WWW, "addr", (1, 2))], [("add", (WWW, "addr", 6, 3)), ("drop", NET)])


def calls():
    """Return a tuple (function, arguments by name) for each function and each method of the files."""
    zone, names = shop_zone(), Names(copy.deepcopy(ROWS))
    rows = [
        (labels, "is_label", {"value": "a"}), (labels, "is_name", {"value": WWW}), (labels, "is_asked", {"value": WWW}),
        (labels, "name_of", {"text": "www.net."}), (labels, "show_name", {"name": WWW}),
        (labels, "is_under", {"name": WWW, "other": NET}), (labels, "labels_ahead", {"name": WWW, "other": NET}),
        (labels, "common", {"one": WWW, "other": NET}), (labels, "compared", {"one": WWW, "other": NET}),
        (labels, "ordered", {"names": [WWW, NET, WWW]}), (labels, "neighbours", {"names": [WWW, NET], "name": NET}),
        (labels, "size", {"name": WWW}), (labels, "first", {"names": [WWW, NET]}), (labels, "labels_of", {"length": 2}),
        (labels, "names_of", {"size": 5}), (labels, "nth_label", {"index": 40}), (labels, "label_index", {"label": "net"}),
        (labels, "label_but", {"labels": ["1", "0"]}),
        (records, "is_kind", {"value": "addr"}), (records, "is_record", {"value": ADDRS[0]}),
        (records, "is_data", {"kind": "mail", "value": (1, WWW)}),
        (records, "data_compared", {"kind": "mail", "one": (1, WWW), "other": (1, NET)}),
        (records, "sets_of", {"records": ADDRS}), (records, "records_of", {"sets": SETS}),
        (records, "first_unlike", {"one": ADDRS, "other": ADDRS[1:]}), (records, "names_in", {"record": ADDRS[2]}),
        (records, "put_below", {"records": ADDRS, "old": NET, "new": ("org",)}),
        (zones, "faults", {"apex": NET, "records": ADDRS}), (zones, "Zone", {"apex": NET, "records": BASE + ADDRS}),
        (zone, "records", {}), (zone, "sets", {}), (zone, "set_at", {"name": WWW, "kind": "addr"}),
        (zone, "has", {"name": WWW}), (zone, "names", {}), (zone, "cuts", {}), (zone, "trees", {}), (zone, "wilds", {}),
        (zone, "nearest", {"name": ("a", "www", "net")}), (zone, "with_records", {"records": [(WWW, "mail", 5, (2, NET))]}),
        (zone, "without", {"records": [(WWW, "text", 30, "hi")]}), (zone, "with_serial", {"serial": 9}),
        (answers, "source", {"zone": zone, "name": WWW}), (answers, "answers", {"zone": zone, "name": WWW}),
        (namesets, "Names", {"rows": ROWS}), (names, "rows", {}), (names, "holds", {"name": ("b", "a")}),
        (namesets, "every", {}), (namesets, "nobody", {}), (namesets, "just", {"names": [WWW, NET]}),
        (namesets, "below", {"name": NET}), (namesets, "under", {"name": NET}), (namesets, "others", {"names": names}),
        (namesets, "put_under", {"names": names, "name": NET}), (namesets, "taken_from", {"names": names, "name": NET}),
        (namesets, "with_label", {"names": names, "label": "www"}), (namesets, "first_in", {"names": names}),
        (namesets, "count", {"names": names, "size": 5}), (namesets, "counts", {"names": names, "most": 5})]
    for word in ["answer", "chase", "chase_end", "chase_age", "reply"]:
        rows.append((answers, word, {"zone": zone, "name": ("web", "net"), "kind": "addr"}))
    for word in ["join", "meet", "without", "first_apart"]:
        rows.append((namesets, word, {"one": names, "other": under(NET)}))
    rows.extend(calls_of_zones(zone) + calls_of_moves(names) + calls_of_serials() + calls_of_changes(zone))
    return [(getattr(place, word), arguments) for place, word, arguments in rows]


def calls_of_zones(zone):
    """Return the calls of zonenames.py, gaps.py and allgaps.py."""
    other, part = zone.with_serial(3), gaps.gaps(zone)[:5]
    name = ("q", "www", "net")
    return [
        (zonenames, "with_word", {"zone": zone, "kind": "addr", "word": "found"}),
        (zonenames, "found_with", {"zone": zone, "kind": "mail", "data": (5, ("m",))}),
        (zonenames, "by_wild", {"zone": zone, "name": ("*", "net")}),
        (zonenames, "same_answers", {"zone": zone, "name": WWW, "kind": "addr"}),
        (zonenames, "counted", {"zone": zone, "kind": "addr", "word": "found", "size": 7}),
        (zonenames, "first_unlike", {"one": zone, "other": other}), (zonenames, "are_alike", {"one": zone, "other": other}),
        (zonenames, "needless", {"zone": zone}), (zonenames, "lean", {"zone": zone}),
        (gaps, "gaps", {"zone": zone}), (gaps, "is_gap", {"value": GAPS[0]}),
        (gaps, "shown", {"apex": NET, "gaps": GAPS, "name": name, "kind": "addr"}),
        (gaps, "showing", {"zone": zone, "name": name, "kind": "addr"}),
        (gaps, "judge_showing", {"apex": NET, "word": "absent", "name": name, "kind": "addr", "value": GAPS}),
        (gaps, "clash", {"apex": NET, "gaps": GAPS + [(NET, ("v", "net"), ())]}),
        (allgaps, "first_between", {"one": NET, "other": WWW}), (allgaps, "between", {"one": NET, "other": WWW, "size": 7}),
        (allgaps, "first_untold", {"zone": zone, "gaps": part, "kind": "addr"}),
        (allgaps, "told", {"zone": zone, "gaps": part, "kind": "text", "size": 7}),
        (allgaps, "fewest", {"zone": zone, "names": [name, WWW, NET], "kind": "text"})]


def calls_of_moves(names):
    """Return the calls of moves.py and allmoves.py."""
    book, other = Moves(MOVES), Moves(MOVES[:1])
    zones_passed = [shop_zone()]
    rows = [
        (moves, "Moves", {"moves": MOVES}), (book, "moves", {}), (moves, "moves_of", {"zones": zones_passed}),
        (moves, "step", {"moves": book, "name": ("a", "org")}), (moves, "chase", {"moves": book, "name": ("www", "org"), "most": 5}),
        (moves, "ending", {"moves": book, "name": ("k", "x")}),
        (moves, "judge_growth", {"moves": book, "name": ("k", "x"), "value": ("grows", 5, 1, 4)}),
        (allmoves, "coming_to", {"moves": book, "goal": names}), (allmoves, "ending_in", {"moves": book, "goal": names}),
        (allmoves, "first_apart", {"one": book, "other": other})]
    for word in ["endless", "in_rings", "growing", "first_endless", "longest", "longest_name", "needless_moves"]:
        rows.append((allmoves, word, {"moves": other if word.startswith("longest") else book}))
    return rows


def calls_of_serials():
    ends = {"one": 5, "other": 2 ** 31 + 5, "missed": 1}
    return [
        (serials, "newer", {"one": 5, "other": 7}), (serials, "further", {"serial": 5, "steps": 7}), (serials, "newest", {"serials": [5, 7]}),
        (serials, "fewest_steps", ends), (serials, "steps", ends), (serials, "judge_steps", {**ends, "value": serials.steps(**ends)})]


def calls_of_changes(zone):
    rows = [(changes, word, {"records": ADDRS, "change": CHANGE}) for word in ["applies", "changed", "back"]]
    more = ([], [("add", (WWW, "text", 30, "ho"))])
    return rows + [(changes, "is_change", {"value": CHANGE}), (changes, "changed_zone", {"zone": zone, "change": more})]


def lists_in(value):
    """Return all lists within lists and tuples; a dict in a refused object is stored as it is."""
    found = [value] if isinstance(value, list) else []
    if isinstance(value, (list, tuple)):
        for part in value:
            found.extend(lists_in(part))
    return found


def spoil_lists(value):
    """Change all lists within lists and tuples."""
    for one in lists_in(value):
        one.append("spoiled")
        del one[0]


class MannersTest(Manners, unittest.TestCase):
    MODULES = [labels, records, zones, answers, namesets, zonenames, moves, allmoves, gaps, allgaps, serials, changes]
    HELPERS = """answer_from numbers_of_names is_serial data_place record_place key_place each_once datas_in_order sets_of_checked unfolded
        are_datas is_set""".split()

    def calls(self):
        return [(call, arguments, []) for call, arguments in calls()]

    def test_objects_stay_as_they_were(self):
        zone, names, book = shop_zone(), Names(ROWS), Moves(MOVES)
        for value in [zone.records(), zone.sets(), zone.names(), zone.cuts(), zone.trees(), zone.wilds(), names.rows(), book.moves(),
                      zonenames.needless(zone), gaps.gaps(zone), allmoves.needless_moves(book)]:
            spoil(value)
        self.assertEqual(seen(shop_zone()), seen(zone))
        self.assertEqual(seen(Names(ROWS)), seen(names))
        self.assertEqual(seen(Moves(MOVES)), seen(book))
        for change in [lambda: zone.with_serial(5), lambda: zone.with_records(BASE[:1]), lambda: zone.without(zone.records()[5:6])]:
            change()
            self.assertEqual(seen(shop_zone()), seen(zone))
        for word in ["apex", "serial", "absent_age"]:
            with self.assertRaises(AttributeError):
                setattr(zone, word, 5)


class RaisedTest(unittest.TestCase):
    def failing(self, value):
        """Return calls that refuse a value."""
        zone = shop_zone()
        return [
            lambda: labels.size(value), lambda: labels.ordered([NET, value]), lambda: labels.label_index(value),
            lambda: records.names_in(value), lambda: records.sets_of([ADDRS[0], value]), lambda: records.is_data(value, 5),
            lambda: records.put_below(ADDRS, value, NET), lambda: zones.faults(value, []), lambda: Zone(NET, [value]),
            lambda: Zone(value, []), lambda: zone.has(value), lambda: zone.set_at(NET, value), lambda: zone.with_serial(value),
            lambda: zone.without([value]), lambda: zone.with_records([value]), lambda: answers.source(zone, value),
            lambda: answers.reply(zone, NET, value), lambda: under(value), lambda: namesets.with_label(under(NET), value),
            lambda: namesets.just([NET, value]), lambda: under(NET).holds(value),
            lambda: zonenames.with_word(zone, value, "found"), lambda: zonenames.with_word(zone, "addr", value),
            lambda: zonenames.found_with(zone, "addr", value), lambda: zonenames.by_wild(zone, value),
            lambda: zonenames.same_answers(zone, NET, value), lambda: zonenames.counted(zone, "addr", value, 5),
            lambda: Moves(MOVES + [value]), lambda: moves.step(Moves(MOVES), value), lambda: moves.ending(Moves(MOVES), value),
            lambda: gaps.shown(NET, GAPS + [value], NET, "addr"), lambda: gaps.clash(NET, GAPS + [value]),
            lambda: gaps.judge_showing(NET, value, NET, "addr", GAPS), lambda: gaps.shown(NET, GAPS, value, "addr"),
            lambda: allgaps.first_between(value, NET), lambda: allgaps.told(zone, gaps.gaps(zone) + [value], "addr", 5),
            lambda: allgaps.fewest(zone, [NET, value], "addr"), lambda: serials.newer(5, value), lambda: serials.newest([5, value]),
            lambda: changes.applies(ADDRS, (CHANGE[0] + [value], [])), lambda: changes.back(ADDRS, (CHANGE[0], [value])),
            lambda: changes.changed_zone(zone, ([], CHANGE[1] + [value])), lambda: changes.changed(ADDRS + [value], CHANGE)]

    def test_values_are_built_anew(self):
        inner, thing = ["x"], {"k": ["y"]}
        for value in [[inner, inner, (inner, thing)], (inner, [inner], thing), nested(list, 100), nested(tuple, 100),
                      [[], [()], ([],)], (("a",), [("b", ["c"])])]:
            ahead = copy.deepcopy(value)
            passed = [id(one) for one in lists_in(value)]
            for call in self.failing(value):
                with self.assertRaises(TreeError) as caught:
                    call()
                told = caught.exception.value
                self.assertEqual(value, told)
                each = [id(one) for one in lists_in(told)]
                self.assertEqual(len(each), len(set(each)))
                self.assertEqual([], [one for one in each if one in passed])
                spoil_lists(told)
                self.assertEqual(ahead, value)

    def test_others_are_stored_as_they_are(self):
        for value in [{"k": ["y"]}, object(), b"ab", {1, 2}]:
            for call in self.failing(value):
                with self.assertRaises(TreeError) as caught:
                    call()
                self.assertIs(value, caught.exception.value)
            with self.assertRaises(InvalidName) as caught:
                labels.size(("a", [value]))
            self.assertIs(value, caught.exception.value[1][0])

    def test_lists_of_faults(self):
        records_passed = [(NET, "alias", 5, NET)]
        with self.assertRaises(InvalidZone) as caught:
            Zone(NET, BASE + records_passed)
        self.assertEqual([(NET, "alias")], caught.exception.value)
        caught.exception.value.append("spoiled")
        self.assertEqual([(NET, "alias")], zones.faults(NET, BASE + records_passed))

    def test_arguments_stay_as_they_were(self):
        for value in NOTHING_AT_ALL:
            rows, names, given = [ROWS[0], value], [NET, value], BASE + [value]
            kept = [list(rows), list(names), list(given), copy.deepcopy(ROWS)]
            with self.assertRaises(InvalidNames):
                Names(rows)
            for call in [lambda: labels.ordered(names), lambda: Zone(NET, given), lambda: records.sets_of(given)]:
                with self.assertRaises(TreeError):
                    call()
            self.assertEqual(kept, [rows, names, given, ROWS])

