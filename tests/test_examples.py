"""The examples of the document, as they are written there."""

import doctest
import unittest

LABELS = """
>>> from rootward.labels import common, compared, first, label_but, labels_ahead, name_of, names_of, neighbours, nth_label, ordered, show_name, size
>>> www, shop = name_of("www.shop.net."), name_of("shop.net.")
>>> [www, show_name(()), size(www), labels_ahead(www, shop), common(www, ("a", "net")), compared(www, shop), first([www, shop, ("a", "b")])]
[('www', 'shop', 'net'), '.', 14, ('www',), ('net',), 1, ('a', 'b')]
>>> [ordered([www, ("z", "net"), shop, ("net",)]), neighbours([shop, www], ("a", "shop", "net"))]
[[('net',), ('shop', 'net'), ('www', 'shop', 'net'), ('z', 'net')], (('shop', 'net'), ('www', 'shop', 'net'))]
>>> [[names_of(n) for n in range(6)], nth_label(0), nth_label(10), nth_label(36), label_but(["0", "1", "a"])]
[[0, 1, 0, 36, 1296, 49248], '0', 'a', '00', '2']
"""

RECORDS = """
>>> from rootward.records import names_in, put_below, sets_of
>>> pair = [(("www", "net"), "addr", 60, 21), (("www", "net"), "addr", 60, 20), (("a", "net"), "mail", 9, (10, ("www", "net")))]
>>> [sets_of(pair), names_in(pair[2]), put_below(pair[2:], ("net",), ())]
[[(('a', 'net'), 'mail', 9, ((10, ('www', 'net')),)), (('www', 'net'), 'addr', 60, (20, 21))], [('www', 'net')], [(('a',), 'mail', 9, (10, ('www',)))]]
"""

ZONES = """
>>> from rootward.labels import name_of
>>> from rootward.zones import Zone, faults
>>> shop, ns, www, lab, old = [name_of(text) for text in ["shop.net.", "ns.shop.net.", "www.shop.net.", "lab.shop.net.", "old.shop.net."]]
>>> start = (shop, "start", 3600, (ns, 7, 1200, 300, 90000, 600))
>>> base = [start, (shop, "server", 3600, ns), (ns, "addr", 3600, 10), (www, "addr", 300, 20), (www, "addr", 300, 21)]
>>> more = [(("*",) + shop, "addr", 60, 99), (("web",) + shop, "alias", 300, www), (lab, "server", 3600, ("ns",) + lab), (("ns",) + lab, "addr", 3600, 30), (old, "tree", 300, shop)]
>>> zone = Zone(shop, base + more)
>>> [zone.serial, zone.absent_age, len(zone), zone.cuts(), zone.has(("ns",) + lab), zone.nearest(("a",) + www), faults(shop, base[1:] + [(www, "alias", 5, shop)])]
[7, 600, 10, [('lab', 'shop', 'net')], False, ('www', 'shop', 'net'), [(('shop', 'net'), 'no start'), (('www', 'shop', 'net'), 'alias')]]
"""

ANSWERS = """
>>> from rootward.answers import answer, chase_age, chase_end, reply, source
>>> from rootward.labels import name_of
>>> from rootward.zones import Zone
>>> shop, ns, www, lab, old = [name_of(text) for text in ["shop.net.", "ns.shop.net.", "www.shop.net.", "lab.shop.net.", "old.shop.net."]]
>>> start = (shop, "start", 3600, (ns, 7, 1200, 300, 90000, 600))
>>> base = [start, (shop, "server", 3600, ns), (ns, "addr", 3600, 10), (www, "addr", 300, 20), (www, "addr", 300, 21)]
>>> more = [(("*",) + shop, "addr", 60, 99), (("web",) + shop, "alias", 300, www), (lab, "server", 3600, ("ns",) + lab), (("ns",) + lab, "addr", 3600, 30), (old, "tree", 300, shop)]
>>> zone = Zone(shop, base + more)
>>> [answer(zone, www, "addr"), answer(zone, ("x", "y") + shop, "addr"), answer(zone, ("x",) + shop, "text"), answer(zone, ("x",) + www, "addr")]
[('found', 300, (20, 21)), ('found', 60, (99,)), ('empty', 600), ('absent', 600)]
>>> [answer(zone, ("x",) + lab, "addr"), answer(zone, ("web",) + old, "addr"), source(zone, old), source(zone, ("x",) + shop)]
[('cut', 3600, ('lab', 'shop', 'net'), (('ns', 'lab', 'shop', 'net'),), ((('ns', 'lab', 'shop', 'net'), 3600, (30,)),)), ('tree', 300, ('old', 'shop', 'net'), ('web', 'shop', 'net')), ('own', ('old', 'shop', 'net')), ('wild', ('*', 'shop', 'net'))]
>>> [chase_end(zone, ("web",) + old, "addr"), chase_age(zone, ("q",) + old, "addr"), reply(zone, ("web",) + shop, "addr")]
[('told', ('www', 'shop', 'net')), 60, (0, [(('web', 'shop', 'net'), 'alias', 300, ('www', 'shop', 'net')), (('www', 'shop', 'net'), 'addr', 300, 20), (('www', 'shop', 'net'), 'addr', 300, 21)], [], [])]
"""

NAMESETS = """
>>> from rootward.namesets import below, count, first_apart, first_in, join, just, others, put_under, taken_from, under, with_label
>>> net = below(("net",))
>>> [just([("a",)]).rows(), net.rows()]
[[(False, [('a', 1)], 2), (True, [], 2), (False, [], 2)], [(False, [('net', 1)], 2), (False, [], 3), (False, [], 2), (True, [], 3)]]
>>> [first_in(net), count(net, 7), net.holds(("net",)), first_apart(net, under(("net",))), join(net, just([("net",)])) == under(("net",)), first_in(others(net)), taken_from(net, ("net",)) == others(just([()]))]
[('0', 'net'), 36, False, ('net',), True, (), True]
>>> [put_under(just([("a",), ()]), ("net",)) == just([("a", "net"), ("net",)]), first_in(with_label(net, "www")), len(with_label(under(()), "a"))]
[True, ('www', '0', 'net'), 2]
"""

ZONENAMES = """
>>> from rootward.zonenames import are_alike, by_wild, counted, first_unlike, lean, needless, with_word
>>> from rootward.zones import Zone
>>> start, server = ((), "start", 60, (("n",), 1, 2, 3, 4, 50)), ((), "server", 60, ("n",))
>>> wild = Zone((), [start, server, (("*",), "addr", 60, 5)])
>>> same = wild.with_records([(("n",), "addr", 60, 5)])
>>> [first_unlike(wild, same), first_unlike(same, wild.with_records([(("n",), "addr", 60, 5), (("b", "n"), "addr", 60, 5)]))]
[(('0', 'n'), 'addr', ('found', 60, (5,)), ('absent', 50)), (('b', 'n'), 'addr', ('absent', 50), ('found', 60, (5,)))]
>>> [counted(wild, "addr", "found", 3), counted(wild, "addr", "empty", 1), needless(same), are_alike(wild, lean(wild)), first_unlike(wild, wild.with_serial(2))]
[36, 1, [], True, ((), 'start', ('found', 60, ((('n',), 1, 2, 3, 4, 50),)), ('found', 60, ((('n',), 2, 2, 3, 4, 50),)))]
"""

MOVES = """
>>> from rootward.moves import Moves, chase, ending, judge_growth, step
>>> moves = Moves([("tree", ("old",), ("new",)), ("tree", ("x",), ("y", "x")), ("alias", ("a",), ("b",)), ("alias", ("b",), ("a",)), ("tree", ("b", "new"), ())])
>>> [step(moves, ("old",)), chase(moves, ("k", "b", "old"), 9), ending(moves, ("b", "old")), ending(moves, ("a",)), ending(moves, ("k", "x"))[0]]
[None, [('k', 'b', 'old'), ('k', 'b', 'new'), ('k',)], ('ends', ('b', 'new'), 1), ('ring', 0, 2), 'grows']
>>> [judge_growth(moves, ("k", "x"), ("grows", 2, 1, 1)), judge_growth(moves, ("k", "x"), ("grows", 1, 1, 1)), judge_growth(moves, ("k", "x"), ("grows", 5, 2, 2))]
[True, False, True]
"""

ALLMOVES = """
>>> from rootward.allmoves import coming_to, endless, ending_in, first_apart, first_endless, in_rings, longest, longest_name, needless_moves
>>> from rootward.moves import Moves
>>> from rootward.namesets import just, join, under, below
>>> plain = Moves([("tree", ("old",), ("new",)), ("tree", ("new",), ("top", "new2"))])
>>> [longest(plain), longest_name(plain), first_endless(plain), first_apart(plain, Moves([("tree", ("old",), ("top", "new2")), ("tree", ("new",), ("top", "new2"))]))]
[2, ('0', 'old'), None, None]
>>> up = Moves([("tree", ("a",), ()), ("alias", ("r",), ("s", "q")), ("tree", ("q",), ("q",))])
>>> [longest(up), first_endless(up), in_rings(up) == endless(up), ending_in(up, just([("b",)])).holds(("b", "a", "a")), first_apart(up, Moves([("tree", ("a",), ())]))]
[None, ('r',), True, True, ('r',)]
>>> [coming_to(plain, under(("new2",))) == join(under(("new2",)), join(below(("old",)), below(("new",)))), needless_moves(plain)]
[True, []]
"""

GAPS = """
>>> from rootward.gaps import clash, gaps, judge_showing, shown, showing
>>> from rootward.zones import Zone
>>> zone = Zone((), [((), "start", 60, (("n",), 1, 2, 3, 4, 50)), ((), "server", 60, ("n",)), (("n",), "addr", 60, 5), (("w", "n"), "text", 60, "hi")])
>>> [gaps(zone), showing(zone, ("m",), "addr"), showing(zone, ("n",), "text"), showing(zone, ("a", "n"), "addr")]
[[((), ('n',), ('server', 'start')), (('n',), ('w', 'n'), ('addr',)), (('w', 'n'), (), ('text',))], [((), ('n',), ('server', 'start'))], [(('n',), ('w', 'n'), ('addr',))], [(('n',), ('w', 'n'), ('addr',))]]
>>> [shown((), [(("w", "n"), (), ("text",))], ("z",), "addr"), shown((), gaps(zone), ("z",), "addr"), showing(zone, ("z",), "addr"), clash((), [((), ("n",), ("start",)), (("m",), (), ())])]
[None, 'absent', [((), ('n',), ('server', 'start')), (('w', 'n'), (), ('text',))], (0, 1)]
"""

ALLGAPS = """
>>> from rootward.allgaps import between, fewest, first_between, first_untold, told
>>> from rootward.gaps import gaps
>>> from rootward.zones import Zone
>>> zone = Zone((), [((), "start", 60, (("n",), 1, 2, 3, 4, 50)), ((), "server", 60, ("n",)), (("n",), "addr", 60, 5), (("w", "n"), "text", 60, "hi")])
>>> [first_between(("n",), ("o",)), first_between(("a",), ("0", "a")), first_between(("z",), None), between((), ("2",), 3), between(("n",), None, 3)]
[('n0',), None, ('z0',), 2, 12]
>>> [first_untold(zone, gaps(zone), "addr"), first_untold(zone, gaps(zone)[:2], "addr"), told(zone, gaps(zone)[:1], "addr", 3), fewest(zone, [("m",), ("a",), ("n",)], "addr")]
[None, ('o',), 23, [((), ('n',), ('server', 'start'))]]
"""

CHANGES = """
>>> from rootward.changes import applies, back, changed
>>> a, b = ("a",), ("b",)
>>> book = [(a, "addr", 5, 1), (a, "addr", 5, 2), (b, "text", 9, "x")]
>>> change = ([("has", a, "addr"), ("free", ("c",))], [("add", (a, "addr", 7, 3)), ("take", a, "addr", 1), ("drop", b)])
>>> [applies(book, change), changed(book, change), back(book, change), changed(book, ([("free", a)], [("drop", a)])) == changed(book, ([], []))]
[True, [(('a',), 'addr', 7, (2, 3))], ([], [('take', ('a',), 'addr', 3), ('add', (('a',), 'addr', 5, 1)), ('add', (('b',), 'text', 9, 'x'))]), True]
"""

SERIALS = """
>>> from rootward.serials import fewest_steps, further, judge_steps, newer, newest
>>> half = 2 ** 31
>>> [newer(1, 0), newer(0, 2 ** 32 - 1), newer(half, 0), newer(0, half), further(2 ** 32 - 1, 2), newest([5, 7, 5]), newest([0, half]), newest([])]
[True, True, False, False, 1, 7, None, None]
>>> [fewest_steps(5, 4, 0), fewest_steps(0, half, 0), fewest_steps(0, half, 1), fewest_steps(3, 3, 9), fewest_steps(0, half - 1, 5), judge_steps(0, half, 0, [1, half]), judge_steps(0, half, 1, [1, half])]
[3, 2, 3, 0, 1, True, False]
"""

ALLCHANGES = """
>>> from rootward.allchanges import apart, behind, idle, judge_apart, lean, order_apart, when
>>> a = ("a",)
>>> put, clear = ([], [("add", (a, "addr", 5, 1))]), ([], [("clear", a, "addr")])
>>> [apart(put, put), apart(clear, ([("has", a, "addr")], [("clear", a, "addr")])), apart(clear, ([], [("drop", a)])) is None, order_apart(put, clear), order_apart(put, ([], [("add", (a, "addr", 5, 2))]))]
[None, None, False, [], None]
>>> [when(([("there", a), ("free", a)], [])), behind(put, ([("has", a, "addr")], [])), idle(([("lacks", a, "addr")], [("clear", a, "addr")])), lean(([("there", a)], [("clear", a, "addr"), ("clear", a, "addr")])), judge_apart(put, ([], []), [])]
['never', 'always', True, ([], [('clear', ('a',), 'addr')]), True]
"""

JOURNALS = """
>>> from rootward.journals import caught_up, chain, difference, put_together, turned_back, weight
>>> from rootward.zones import Zone
>>> one = Zone((), [((), "start", 60, (("n",), 1, 2, 3, 4, 50)), ((), "server", 60, ("n",))])
>>> two = one.with_serial(2).with_records([(("w",), "addr", 9, 5)])
>>> three = two.with_serial(3).without([(("w",), "addr", 9, 5)])
>>> first, second = difference(one, two), difference(two, three)
>>> [first[:2], len(first[2]), len(first[3]), put_together([first, second]) == difference(one, three), turned_back(first) == difference(two, one)]
[(1, 2), 1, 2, True, True]
>>> [chain([first, second, difference(one, three)], 1, 3), weight([first, second], [0, 1]), caught_up(one, [first, second], 3) == three, chain([first], 2, 1)]
[[2], 6, True, None]
"""

ZONETEXTS = r"""
>>> from rootward.zones import Zone
>>> from rootward.zonetexts import shortest_size, shortest_text, show_zone
>>> zone = Zone(("net",), [(("net",), "start", 60, (("n", "net"), 1, 2, 3, 4, 50)), (("net",), "server", 60, ("n", "net")), (("n", "net"), "addr", 60, 5)])
>>> show_zone(zone)
'zone net.\nnet. 60 server n.net.\nnet. 60 start n.net. 1 2 3 4 50\nn.net. 60 addr 5\n'
>>> [shortest_text(zone), shortest_size(zone)]
['zone net.\nage 60\n@ server n\n start n 1 2 3 4 50\nn addr 5\n', 57]
"""

ZONEREADS = r"""
>>> from rootward.errors import Unreadable
>>> from rootward.zonereads import read_names, read_zone
>>> from rootward.zonetexts import show_zone
>>> text = "zone net.\n@ 60 start n 1 2 3 4 50\n 60 server n ; one\n\nage 7\norigin sub.net.\n* addr 5\n"
>>> [show_zone(read_zone(text)).count("7 addr"), read_names(text), len(read_zone(text))]
[1, [('net',), ('*', 'sub', 'net')], 3]
"""

MESSAGES = """
>>> from rootward.messages import question, replied, told_of
>>> from rootward.zones import Zone
>>> zone = Zone((), [((), "start", 60, (("n",), 1, 2, 3, 4, 50)), ((), "server", 60, ("n",)), (("n",), "addr", 60, 5), (("m",), "alias", 9, ("n",))])
>>> asked = question(7, ("m",), "addr", True)
>>> answer = replied(zone, asked)
>>> [asked, answer[:3], answer[4], told_of(answer, ("m",), "addr"), told_of(answer, ("m",), "text"), replied(zone, question(7, ("z",), "addr", False))[1:3]]
[(7, ('deep',), 0, [(('m',), 'addr')], [], [], []), (7, ('deep', 'reply', 'sure'), 0), [(('m',), 'alias', 9, ('n',)), (('n',), 'addr', 60, 5)], (5,), None, (('reply', 'sure'), 3)]
"""

WIRES = """
>>> from rootward.messages import question
>>> from rootward.wires import cut_to, packed, packed_size, plain_bytes, spared
>>> asked = question(258, ("b", "a"), "addr", True)
>>> plain_bytes(asked)
[1, 2, 2, 0, 0, 1, 0, 0, 0, 0, 0, 0, 1, 98, 1, 97, 0, 1]
>>> told = (258, ("reply",), 0, [(("b", "a"), "addr")], [(("b", "a"), "server", 3, ("c", "a"))], [], [])
>>> [packed(told)[12:], spared(told), packed_size(cut_to(told, 20)), cut_to(told, 20)[1], cut_to(told, 17)]
[[1, 98, 1, 97, 0, 1, 192, 12, 5, 0, 0, 0, 3, 0, 4, 1, 99, 192, 14], 4, 18, ('cut', 'reply'), None]
"""

WIREREADS = """
>>> from rootward.errors import Unreadable
>>> from rootward.wirereads import is_packed, is_shortest, unpacked
>>> head = [1, 2, 2, 0, 0, 1, 0, 0, 0, 0, 0, 0]
>>> [unpacked(head + [1, 98, 1, 97, 0, 1]), is_packed(head + [1, 98, 1, 97, 0, 1]), is_shortest([]), is_packed(head + [1, 97, 0, 9])]
[(258, ('deep',), 0, [(('b', 'a'), 'addr')], [], [], []), True, False, False]
"""

REACH = """
>>> from rootward.asking import ask
>>> from rootward.failures import keeping, stopping
>>> from rootward.forests import Forest, plain
>>> from rootward.reach import block_of, judge_block, prices, reached, way_to
>>> from rootward.trust import least_takers, takeable
>>> from rootward.zones import Zone
>>> net, org, shop, nn, no = ("net",), ("org",), ("shop", "net"), ("ns", "net"), ("ns", "org")
>>> parts = [((), ("ns",), [(("ns",), "addr", 9, 1), (net, "server", 9, nn), (nn, "addr", 9, 2), (org, "server", 9, nn)])]
>>> more = [(net, nn, [(nn, "addr", 9, 2), (shop, "server", 9, no)]), (org, nn, [(no, "addr", 9, 3)]), (shop, no, [(("www",) + shop, "addr", 9, 9)])]
>>> zones = [Zone(apex, [(apex, "start", 9, (host, 1, 2, 3, 4, 5)), (apex, "server", 9, host)] + rest) for apex, host, rest in parts + more]
>>> forest = Forest(zones, {1: [()], 2: [net, org], 3: [shop]}, [1])
>>> [reached(forest), reached(forest, up=[1, 2]), prices(forest)]
[[(), ('net',), ('shop', 'net'), ('org',)], [(), ('net',), ('org',)], [((), 1), (('net',), 2), (('shop', 'net'), 7), (('org',), 4)]]
>>> [way_to(forest, org), judge_block(forest, org, [net, shop, org], up=[1, 3]), len(ask(forest, ("www",) + shop, "addr")[1]), plain(forest, ("www",) + shop, "addr")]
[[('root', 1), ('zone', ('net',), ('ns', 'net'), 2), ('zone', ('org',), ('ns', 'net'), 2)], True, 7, (('found', 9, (9,)), [('www', 'shop', 'net')])]
>>> [stopping(forest, shop), keeping(forest, org), takeable(forest, [3]), takeable(forest, [2]), least_takers(forest, org)]
[[[1], [2], [3]], [[1, 2]], [('shop', 'net')], [('net',), ('shop', 'net'), ('org',)], [1, 2]]
"""

VIEWS = """
>>> from rootward.forwards import first_ring, rings, route, unlike_routes
>>> from rootward.views import merged_views, unlike_view, view_of, view_ranges
>>> books = {"a": [((), "b"), (("net",), None)], "b": [((), None), (("org",), "a")]}
>>> [route(books, "a", ("www", "org")), route(books, "a", ("x", "net")), rings(books), first_ring(books, "a"), unlike_routes(books, {"a": [((), "b")], "b": [((), None)]}, "a")]
[(['a', 'b'], 'ring'), (['a'], 'here'), [(('org',), 'a'), (('org',), 'b')], ('org',), ('net',)]
>>> views = [(0, 9, "in"), (5, 20, "out")]
>>> [view_of(views, 7), view_ranges(views), merged_views(views), unlike_view(views, views[:1])]
['in', [(0, 9, 'in'), (10, 20, 'out'), (21, 4294967295, None)], [(0, 9, 'in'), (10, 20, 'out')], 10]
"""

CACHES = """
>>> from rootward.caches import Cache, life
>>> cache = Cache((0, 3600))
>>> [life((0, 3600), 86400), life((30, 3600), 5), life((30, 3600), 0), cache.put(10, ("absent", ("x", "net"), 20), 1)]
[3600, 30, 0, True]
>>> [cache.look(29, ("y", "x", "net"), "addr"), cache.look(30, ("x", "net"), "addr")]
[('absent', 1), None]
"""

STALE = """
>>> from rootward.cacheruns import may_tell, settled
>>> from rootward.stale import longest_stale, stale_bound
>>> timeline = [(0, 10, "old"), (100, 10, "new")]
>>> [may_tell(timeline, (0, 60), 105), may_tell(timeline, (0, 60), 109), settled(timeline, (0, 60)), settled(timeline, (30, 60))]
[['new', 'old'], ['new'], 109, 129]
>>> [longest_stale(timeline, (0, 60), 0, 200), longest_stale(timeline, (0, 60), 5, 200), stale_bound(10, (30, 60), 5), stale_bound(10, (0, 60), None)]
[9, 14, 34, None]
"""

CHAINS = """
>>> from rootward.chains import greatest_stale, settled_net, stale_way
>>> caches = {"a": ((0, 3600), 0, [None]), "b": ((30, 60), 0, ["a"]), "c": ((0, 60), 10, [None, "b"])}
>>> [[greatest_stale(caches, node, 100) for node in caches], stale_way(caches, "c", 100), settled_net(caches, "c", 100, 7)]
[[99, 128, 138], ['a', 'b', 'c'], 145]
>>> [greatest_stale({"a": ((floor, 9), 0, [None, "b"]), "b": ((5, 9), 0, ["a"])}, "b", 9) for floor in [0, 3]]
[12, None]
"""

SECONDS = """
>>> from rootward.seconds import askings, longest_lag, longest_lag_noticed, longest_silence, told_second
>>> timers = (20, 5, 60)
>>> [longest_lag(timers, 2), longest_lag(timers, None), longest_silence(timers, 9), longest_lag_noticed(timers, 2)]
[29, 59, 5, 10]
>>> history = [(0, timers, "old"), (21, timers, "new")]
>>> [told_second(history, [], 39), told_second(history, [], 40), askings(history, [20, 25], 60), told_second(history, [20, 25], 30)]
['old', 'new', [20, 25, 30, 50], 'new']
"""

SECONDNETS = """
>>> from rootward.secondnets import longest_life, settled_stands
>>> seconds = {"a": (60, [None]), "b": (40, ["a"]), "c": (40, ["b", "d"]), "d": (10, ["c"])}
>>> [longest_life(seconds, node) for node in seconds]
[59, 98, None, None]
>>> settled_stands({"a": (9, [None]), "b": (9, ["a"])}, 7, {"a": 5, "b": 5})
[[('a', 7), ('b', 7)]]
"""

EXAMPLES = {
    "labels": LABELS, "records": RECORDS, "zones": ZONES, "answers": ANSWERS, "namesets": NAMESETS, "zonenames": ZONENAMES,
    "moves": MOVES, "allmoves": ALLMOVES, "gaps": GAPS, "allgaps": ALLGAPS, "serials": SERIALS, "changes": CHANGES,
    "allchanges": ALLCHANGES, "journals": JOURNALS, "zonetexts": ZONETEXTS, "zonereads": ZONEREADS, "messages": MESSAGES,
    "wires": WIRES, "wirereads": WIREREADS, "reach": REACH, "views": VIEWS,
    "caches": CACHES, "stale": STALE, "chains": CHAINS, "seconds": SECONDS, "secondnets": SECONDNETS}


class ExamplesTest(unittest.TestCase):
    def test_examples(self):
        for head, text in EXAMPLES.items():
            with self.subTest(head=head):
                example = doctest.DocTestParser().get_doctest(text, {}, head, None, 0)
                self.assertGreater(len(example.examples), 2)
                told = []
                failed = doctest.DocTestRunner(verbose=False).run(example, out=told.append).failed
                self.assertEqual(0, failed, "".join(told))
