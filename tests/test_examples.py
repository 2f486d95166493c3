"""The examples of the document, as they are written there."""

import doctest
import unittest

LABELS = """
>>> from rootward.labels import common, compared, first, label_but, labels_ahead, name_of, names_of, neighbours, nth_label, ordered, show_name, size
>>> www, shop = name_of("www.shop.net."), name_of("shop.net.")
>>> [www, show_name(()), size(www), labels_ahead(www, shop), common(www, ("a", "net")), compared(www, shop), first([www, shop, ("a", "b")])]
[('www', 'shop', 'net'), '.', 14, ('www',), ('net',), 1, ('a', 'b')]
>>> [ordered([www, ("z", "net"), shop, ("net",)]), neighbours([shop, www], ("a", "shop", "net"))]
[[('net',), ('shop', 'net'), ('www', 'shop', 'net'), ('z', 'net')], (('shop', 'net'), ('www', 'shop', 'net'))]
>>> [[names_of(n) for n in range(6)], nth_label(0), nth_label(10), nth_label(36), label_but(["0", "1", "a"])]
[[0, 1, 0, 36, 1296, 49248], '0', 'a', '00', '2']
"""

RECORDS = """
>>> from rootward.records import names_in, put_below, sets_of
>>> pair = [(("www", "net"), "addr", 60, 21), (("www", "net"), "addr", 60, 20), (("a", "net"), "mail", 9, (10, ("www", "net")))]
>>> [sets_of(pair), names_in(pair[2]), put_below(pair[2:], ("net",), ())]
[[(('a', 'net'), 'mail', 9, ((10, ('www', 'net')),)), (('www', 'net'), 'addr', 60, (20, 21))], [('www', 'net')], [(('a',), 'mail', 9, (10, ('www',)))]]
"""

ZONES = """
>>> from rootward.labels import name_of
>>> from rootward.zones import Zone, faults
>>> shop, ns, www, lab, old = [name_of(text) for text in ["shop.net.", "ns.shop.net.", "www.shop.net.", "lab.shop.net.", "old.shop.net."]]
>>> start = (shop, "start", 3600, (ns, 7, 1200, 300, 90000, 600))
>>> base = [start, (shop, "server", 3600, ns), (ns, "addr", 3600, 10), (www, "addr", 300, 20), (www, "addr", 300, 21)]
>>> more = [(("*",) + shop, "addr", 60, 99), (("web",) + shop, "alias", 300, www), (lab, "server", 3600, ("ns",) + lab), (("ns",) + lab, "addr", 3600, 30), (old, "tree", 300, shop)]
>>> zone = Zone(shop, base + more)
>>> [zone.serial, zone.absent_age, len(zone), zone.cuts(), zone.has(("ns",) + lab), zone.nearest(("a",) + www), faults(shop, base[1:] + [(www, "alias", 5, shop)])]
[7, 600, 10, [('lab', 'shop', 'net')], False, ('www', 'shop', 'net'), [(('shop', 'net'), 'no start'), (('www', 'shop', 'net'), 'alias')]]
"""

ANSWERS = """
>>> from rootward.answers import answer, chase_age, chase_end, reply, source
>>> from rootward.labels import name_of
>>> from rootward.zones import Zone
>>> shop, ns, www, lab, old = [name_of(text) for text in ["shop.net.", "ns.shop.net.", "www.shop.net.", "lab.shop.net.", "old.shop.net."]]
>>> start = (shop, "start", 3600, (ns, 7, 1200, 300, 90000, 600))
>>> base = [start, (shop, "server", 3600, ns), (ns, "addr", 3600, 10), (www, "addr", 300, 20), (www, "addr", 300, 21)]
>>> more = [(("*",) + shop, "addr", 60, 99), (("web",) + shop, "alias", 300, www), (lab, "server", 3600, ("ns",) + lab), (("ns",) + lab, "addr", 3600, 30), (old, "tree", 300, shop)]
>>> zone = Zone(shop, base + more)
>>> [answer(zone, www, "addr"), answer(zone, ("x", "y") + shop, "addr"), answer(zone, ("x",) + shop, "text"), answer(zone, ("x",) + www, "addr")]
[('found', 300, (20, 21)), ('found', 60, (99,)), ('empty', 600), ('absent', 600)]
>>> [answer(zone, ("x",) + lab, "addr"), answer(zone, ("web",) + old, "addr"), source(zone, old), source(zone, ("x",) + shop)]
[('cut', 3600, ('lab', 'shop', 'net'), (('ns', 'lab', 'shop', 'net'),), ((('ns', 'lab', 'shop', 'net'), 3600, (30,)),)), ('tree', 300, ('old', 'shop', 'net'), ('web', 'shop', 'net')), ('own', ('old', 'shop', 'net')), ('wild', ('*', 'shop', 'net'))]
>>> [chase_end(zone, ("web",) + old, "addr"), chase_age(zone, ("q",) + old, "addr"), reply(zone, ("web",) + shop, "addr")]
[('told', ('www', 'shop', 'net')), 60, (0, [(('web', 'shop', 'net'), 'alias', 300, ('www', 'shop', 'net')), (('www', 'shop', 'net'), 'addr', 300, 20), (('www', 'shop', 'net'), 'addr', 300, 21)], [], [])]
"""

NAMESETS = """
>>> from rootward.namesets import below, count, first_apart, first_in, join, just, others, put_under, taken_from, under, with_label
>>> net = below(("net",))
>>> [just([("a",)]).rows(), net.rows()]
[[(False, [('a', 1)], 2), (True, [], 2), (False, [], 2)], [(False, [('net', 1)], 2), (False, [], 3), (False, [], 2), (True, [], 3)]]
>>> [first_in(net), count(net, 7), net.holds(("net",)), first_apart(net, under(("net",))), join(net, just([("net",)])) == under(("net",)), first_in(others(net)), taken_from(net, ("net",)) == others(just([()]))]
[('0', 'net'), 36, False, ('net',), True, (), True]
>>> [put_under(just([("a",), ()]), ("net",)) == just([("a", "net"), ("net",)]), first_in(with_label(net, "www")), len(with_label(under(()), "a"))]
[True, ('www', '0', 'net'), 2]
"""

EXAMPLES = {"labels": LABELS, "records": RECORDS, "zones": ZONES, "answers": ANSWERS, "namesets": NAMESETS}


class ExamplesTest(unittest.TestCase):
    def test_examples(self):
        for head, text in EXAMPLES.items():
            with self.subTest(head=head):
                example = doctest.DocTestParser().get_doctest(text, {}, head, None, 0)
                self.assertGreater(len(example.examples), 2)
                told = []
                failed = doctest.DocTestRunner(verbose=False).run(example, out=told.append).failed
                self.assertEqual(0, failed, "".join(told))
