"""Zones out of texts, line by line."""

import unittest

from rootward.errors import InvalidZone, OutOfZone, Unreadable, UnlikeAges
from rootward.zonereads import read_names, read_zone
from rootward.zones import Zone
from rootward.zonetexts import show_zone
from tests.samples import shop_zone, start_at

NET = ("net",)
LINES = ["zone net.", "@ 60 start n 1 2 3 4 50", " 60 server n", "age 7", "a addr 5", "origin sub", "* text \"x ; y\"", " 9 mail 1 @"]
GOOD = [
    (NET, "start", 60, (("n", "net"), 1, 2, 3, 4, 50)), (NET, "server", 60, ("n", "net")), (("a", "net"), "addr", 7, 5),
    (("*", "sub", "net"), "text", 7, "x ; y"), (("*", "sub", "net"), "mail", 9, (1, ("sub", "net")))]

# None of these can stand anywhere behind the first line.
BAD = [
    " ", "  ", "a", "addr", "zone net.", "zone a addr", "origin", "origin ", "origin *", "origin *.net.", "origin a..b", "origin ..", "origin A",
    "origin -a", "origin a.*", "origin  a", "origin a ", "origin a b", "age", "age ", "age -1", "age +1", "age 01", "age 00", "age 2147483648", "age x",
    "age 1.0", "age 1 ", "age  1", "age " + "9" * 5000, "a addr", "a addr ", "a  addr 5", "a addr  5", "a addr 5 ", "a addr 05", "a addr -5",
    "a addr +5", "a addr 4294967296", "a addr x", "a addr 5 5", "a 7 addr 05", "a 07 addr 5", "a -7 addr 5", "a 2147483648 addr 5", "a 7 7 addr 5",
    "a 7  addr 5", "a 7 addr", "a ADDR 5", "a adr 5", "A addr 5", "a..b addr 5", ".a addr 5", "a.*.net. addr 5", "*.*.net. addr 5", "** addr 5",
    "- addr 5", "a_b addr 5", "x" * 21 + " addr 5", "@. addr 5", "@.net. addr 5", "a@ addr 5", "\"a\" addr 5", "a server", "a server ", "a server *",
    "a server *.net.", "a server a b", "a server A", "a server a..", "a mail a", "a mail 1", "a mail 1 ", "a mail 65536 a", "a mail 01 a", "a mail a 1",
    "a mail 1 a b", "a mail 1  a", "a mail 1 *", "a start n 1 2 3 4", "a start n 1 2 3 4 5 6", "a start n 4294967296 2 3 4 5", "a start n 1 2147483648 3 4 5",
    "a start n 1 2 3 4 2147483648", "a start n 1 2 3 4 05", "a start 1 2 3 4 5 n", "a start * 1 2 3 4 5", "a text", "a text x", "a text \"", "a text \"x",
    "a text x\"", "a text \"x\"\"", "a text \"x\" ", "a text \"x\" y", "a text \"\\\"", "a text \"\\\\\\\"", "a text \"\\n\"", "a text \"\"\"", "a text  \"x\"",
    "a text \"" + "x" * 61 + "\"", "a text 'x'", "a alias", "a tree *", "a back 5 5", "a 5", "foo 5", "ages 5", "zone 5", "origins a", "a addr 5\\", "a addr \"5\"", "5", "@", ".", "-"]


def text_of(lines):
    return "".join([line + "\n" for line in lines])


class ReadTest(unittest.TestCase):
    def raises(self, place, text):
        for call in [read_zone, read_names]:
            with self.assertRaises(Unreadable) as caught:
                call(text)
            self.assertEqual(place, caught.exception.value, text)

    def test_good(self):
        self.assertEqual(Zone(NET, GOOD), read_zone(text_of(LINES)))
        self.assertEqual([NET, ("a", "net"), ("*", "sub", "net")], read_names(text_of(LINES)))

    def test_each_bad_line_at_each_place(self):
        for line in BAD:
            for place in range(1, len(LINES) + 1):
                self.raises(place, text_of(LINES[:place] + [line] + LINES[place:]))
                self.raises(place, text_of(LINES[:place] + [line] + LINES[place:])[:-1])
            self.raises(len(LINES), text_of(LINES) + line)
            self.raises(2, text_of(LINES[:2] + [line, line] + LINES[2:]))
            self.raises(1 if line == LINES[0] else 0, text_of([line] + LINES))

    def test_first_line(self):
        for line in ["", ";", "; x", " ", "zone", "zone ", "zone net", "zone @", "zone  net.", " zone net.", "zone net. ", "zone net. x", "Zone net.",
                     "zone *.net.", "zone *.", "zone *", "zone net..", "zone ..", "zone .net.", "zone N.", "zone \"net.\"", "a addr 5", "age 7"]:
            self.raises(0, text_of([line] + LINES[1:]))
            self.raises(0, text_of([line] + LINES))
            self.raises(0, line)
        for line in ["zone net. ; here", "zone net.   ;", "zone net.;", "zone net.;x y\""]:
            self.assertEqual(Zone(NET, GOOD), read_zone(text_of([line] + LINES[1:])))

    def test_empty_texts(self):
        self.raises(0, "")
        self.raises(0, "\n")
        self.raises(0, "\n\n\n")
        self.raises(1, "zone net.")
        with self.assertRaises(InvalidZone) as caught:
            read_zone("zone net.\n")
        self.assertEqual([(NET, "no server"), (NET, "no start")], caught.exception.value)
        self.assertEqual([], read_names("zone net.\n"))

    def test_last_line_without_line_feed(self):
        self.raises(len(LINES), text_of(LINES)[:-1])
        self.raises(len(LINES) + 1, text_of(LINES) + "; a remark")
        self.raises(len(LINES) + 1, text_of(LINES) + "b addr 5")
        self.raises(len(LINES), text_of(LINES) + "b addr x")
        self.raises(len(LINES), text_of(LINES) + " ")
        self.raises(3, text_of(LINES[:3] + ["x"] + LINES[3:])[:-1])

    def test_remarks_and_empty_lines(self):
        for place in range(1, len(LINES) + 1):
            for line in ["", ";", "; x", "   ; x", ";;", "; \"", "  ;"]:
                self.assertEqual(Zone(NET, GOOD), read_zone(text_of(LINES[:place] + [line] + LINES[place:])))
            for remark in [";", " ; x", "    ;\"", ";\\"]:
                rest = LINES[:place - 1] + [LINES[place - 1] + remark] + LINES[place:]
                self.assertEqual(Zone(NET, GOOD), read_zone(text_of(rest)))
            self.raises(place, text_of(LINES[:place] + [" "] + LINES[place:]))
        self.raises(4, text_of(LINES[:4] + ["a addr ;5"] + LINES[5:]))
        self.raises(4, text_of(LINES[:4] + ["a addr 5 x; y"] + LINES[5:]))

    def test_texts_with_marks(self):
        for written, data in [("\"\"", ""), ("\";\"", ";"), ("\"\\\"\"", "\""), ("\"\\\\\"", "\\"), ("\"a\\\";\\\\\"", "a\";\\"), ("\" \"", " "),
                              ("\"\\\\\\\"\"", "\\\""), ("\"" + "x" * 60 + "\"", "x" * 60), ("\"" + "\\\"" * 60 + "\"", "\"" * 60),
                              ("\"a addr 5\"", "a addr 5"), ("\"~\"", "~")]:
            for remark in ["", ";", " ; \"", ";\"\\"]:
                found = read_zone(text_of(LINES + ["b text " + written + remark]))
                self.assertEqual(data, found.set_at(("b", "sub", "net"), "text")[3][0])
        for written in ["\"a\"b\"", "\"a\\b\"", "\"\\\\\"\"", "\"a\\\"", "\"\\\";\"\"", "a\"b\"", "\"a\"b", "\"" + "\\\"" * 61 + "\""]:
            self.raises(len(LINES), text_of(LINES + ["b text " + written]))

    def test_names(self):
        rows = [
            ("a", ("a", "sub", "net")), ("a.b", ("a", "b", "sub", "net")), ("a.net.", ("a", "net")), ("net.", NET), ("@", ("sub", "net")),
            ("*", ("*", "sub", "net")), ("*.net.", ("*", "net")), ("*.a", ("*", "a", "sub", "net")), ("5", ("5", "sub", "net")),
            ("addr", ("addr", "sub", "net")), ("origin", ("origin", "sub", "net")), ("age", ("age", "sub", "net")), ("zone", ("zone", "sub", "net"))]
        for written, name in rows:
            found = read_zone(text_of(LINES + [written + " 5 back a"]))
            self.assertEqual((name, "back", 5, (("a", "sub", "net"),)), found.set_at(name, "back"))
            self.assertIn(name, read_names(text_of(LINES + [written + " back a"])))
        for written, name in [("a", ("a", "sub", "net")), ("a.org.", ("a", "org")), (".", ()), ("@", ("sub", "net")), ("5", ("5", "sub", "net"))]:
            found = read_zone(text_of(LINES + ["b back " + written, "b mail 1 " + written]))
            self.assertEqual((name,), found.set_at(("b", "sub", "net"), "back")[3])
            self.assertEqual(((1, name),), found.set_at(("b", "sub", "net"), "mail")[3])

    def test_origins(self):
        for written, name in [("a", ("a", "sub", "net")), ("a.org.", ("a", "org")), (".", ()), ("@", ("sub", "net")), ("net.", NET), ("a.b", ("a", "b", "sub", "net"))]:
            found = read_zone(text_of(LINES + ["origin " + written, "x.net. 5 back @", "x.net. 5 back y"]))
            wanted = sorted([name, ("y",) + name], key=lambda one: one[::-1])
            self.assertEqual(tuple(wanted), found.set_at(("x", "net"), "back")[3])
        root = read_zone("zone .\n@ 60 start a 1 2 3 4 5\n 60 server @\na 60 back b.c\n 60 back .\n")
        self.assertEqual([((),), ((), ("b", "c")), (("a",), 1, 2, 3, 4, 5)],
                         [root.set_at((), "server")[3], root.set_at(("a",), "back")[3], root.set_at((), "start")[3][0]])

    def test_owner_stays_behind_other_lines(self):
        found = read_zone(text_of(LINES + ["b addr 5", "origin org.", "age 8", "", "; x", " text \"y\""]))
        self.assertEqual((("b", "sub", "net"), "text", 8, ("y",)), found.set_at(("b", "sub", "net"), "text"))
        self.raises(1, text_of(["zone net.", " 60 server n"]))
        self.raises(2, text_of(["zone net.", "age 60", " server n"]))
        self.raises(1, text_of(["zone net.", "@ server n"]))
        self.raises(2, text_of(["zone net.", "@ 60 server n", " start n 1 2 3 4 5"]))

    def test_numbers_at_their_bounds(self):
        found = read_zone(text_of(LINES + ["age 0", "b addr 0", "c 2147483647 addr 4294967295", "age 2147483647", "d mail 65535 a", " mail 0 a"]))
        sub = ("sub", "net")
        self.assertEqual([0, 2147483647, 2147483647], [found.set_at((label,) + sub, kind)[2] for label, kind in [("b", "addr"), ("c", "addr"), ("d", "mail")]])
        self.assertEqual((4294967295,), found.set_at(("c",) + sub, "addr")[3])
        self.assertEqual(((0, ("a",) + sub), (65535, ("a",) + sub)), found.set_at(("d",) + sub, "mail")[3])

    def test_errors_of_zones_come_behind(self):
        cases = [
            (LINES + ["a.net. 8 addr 6"], UnlikeAges, (("a", "net"), "addr")), (LINES + ["x.org. addr 6", "y.org. addr 7"], OutOfZone, ("x", "org")),
            (LINES[:2] + LINES[3:], InvalidZone, [(NET, "no server")]), (LINES + ["net. alias a"], InvalidZone, [(NET, "alias")])]
        for lines, error, value in cases:
            with self.assertRaises(error) as caught:
                read_zone(text_of(lines))
            self.assertEqual(value, caught.exception.value)
            self.raises(len(lines), text_of(lines + ["x"]))
            self.raises(len(lines), text_of(lines) + "x")
            with self.assertRaises(Unreadable) as caught:
                read_zone(text_of(lines)[:-1])
            self.assertEqual(len(lines), caught.exception.value)
            self.assertEqual(NET, read_names(text_of(lines))[0])

    def test_records_told_twice(self):
        self.assertEqual(Zone(NET, GOOD), read_zone(text_of(LINES + LINES[-1:])))
        zone = shop_zone()
        text = show_zone(zone)
        self.assertEqual(zone, read_zone(text + text.split("\n", 1)[1]))

    def test_twenty_thousand_signs(self):
        text = text_of(LINES)
        text = text + ";" * (19999 - len(text)) + "\n"
        self.assertEqual(Zone(NET, GOOD), read_zone(text))
        self.raises(1, "zone net.\n" + "9" * 19989 + "\n")
        self.raises(1, "zone net.\na addr " + "9" * 19980 + "\n")
        self.raises(1, "zone net.\n" + "a." * 9990 + " 5 addr 5x\n")
        self.assertEqual([start_at(NET)[0]], read_names("zone net.\n" + "\n" * 19980 + "@ 5 addr 5\n"))
