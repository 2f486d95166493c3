"""Messages as bytes, against all ways to write them."""

import unittest

from rootward.errors import InvalidMessage, InvalidNumber
from rootward.labels import size
from rootward.messages import is_message
from rootward.wirereads import is_packed, is_shortest, unpacked
from rootward.wires import cut_to, packed, packed_size, plain_bytes, spared
from tests import plainwires
from tests.samplemessages import EMPTY, FULL, START, WILD, WWW, large_name, random_message
from tests.samples import NOTHING_AT_ALL, nested


class BytesTest(unittest.TestCase):
    def test_by_hand(self):
        self.assertEqual([0] * 12, plain_bytes(EMPTY))
        self.assertEqual([0] * 12, packed(EMPTY))
        flags = [((), 0), (("cut",), 1), (("deep",), 2), (("deeper",), 4), (("reply",), 8), (("sure",), 16),
                 (("cut", "deep", "deeper", "reply", "sure"), 31)]
        for words, bits in flags:
            self.assertEqual([255, 254, bits, 15] + [0] * 8, packed((65534, words, 15, [], [], [], [])))
        record = (WILD, "start", 2 ** 31 - 1, (("n", "net"), 2 ** 32 - 1, 1, 2 ** 31 - 1, 0, 256))
        code = [0, 0, 0, 0, 0, 0, 0, 0, 0, 0, 0, 1, 1, 42, 3, 110, 101, 116, 0, 6, 127, 255, 255, 255]
        name, numbers = [1, 110, 3, 110, 101, 116, 0], [255] * 4 + [0, 0, 0, 1, 127, 255, 255, 255, 0, 0, 0, 0, 0, 0, 1, 0]
        self.assertEqual(code + [0, 27] + name + numbers, plain_bytes((0, (), 0, [], [], [], [record])))
        self.assertEqual(code + [0, 24] + [1, 110, 192, 14] + numbers, packed((0, (), 0, [], [], [], [record])))

    def test_each_kind(self):
        rows = [("addr", 258, [0, 0, 1, 2], 1), ("alias", ("b",), [1, 98, 0], 2), ("back", ("a",), [192, 12], 3), ("mail", (513, ()), [2, 1, 0], 4),
                ("server", ("b", "a"), [1, 98, 192, 12], 5), ("text", "a \"~", [97, 32, 34, 126], 7), ("text", "", [], 7), ("tree", (), [0], 8)]
        for kind, data, code, number in rows:
            told = packed((0, (), 0, [], [(("a",), kind, 3, data)], [], []))
            self.assertEqual([1, 97, 0, number, 0, 0, 0, 3, 0, len(code)] + code, told[12:])
            self.assertEqual([1, 97, 0, number], packed((0, (), 0, [(("a",), kind)], [], [], []))[12:])

    def test_numbers_of_entries(self):
        message = (0, (), 0, [((), "addr")] * 40, [((), "addr", 0, 0)] * 10, [((), "addr", 0, 0)] * 20, [((), "addr", 0, 0)] * 30)
        self.assertEqual([0, 40, 0, 10, 0, 20, 0, 30], packed(message)[4:12])
        self.assertEqual(12 + 40 * 2 + 60 * 12, packed_size(message))

    def test_all_ways_to_write(self):
        for seed in range(160):
            message = random_message(seed, 2)
            codes = plainwires.all_codes(message)
            self.assertIn(plain_bytes(message), codes)
            least = min([len(code) for code in codes])
            short = [code for code in codes if len(code) == least]
            self.assertEqual(min(short), packed(message))
            self.assertEqual([least, len(plain_bytes(message)) - least], [packed_size(message), spared(message)])
            for code in codes[:30]:
                self.assertEqual(message, unpacked(code))
                self.assertEqual([code == packed(message), len(code) == least], [is_packed(code), is_shortest(code)])

    def test_there_and_back(self):
        for message in [FULL, EMPTY] + [random_message(seed, 6) for seed in range(100)]:
            for code in [plain_bytes(message), packed(message)]:
                self.assertEqual(message, unpacked(code))
                self.assertEqual(message, plainwires.read(code))
            self.assertEqual([True, True], [is_packed(packed(message)), is_shortest(packed(message))])
            self.assertEqual(plain_bytes(message) == packed(message), is_packed(plain_bytes(message)))


class PlacesTest(unittest.TestCase):
    def filled(self, place):
        """A message whose last record's owner begins at a place."""
        rest = place - 12
        # A record takes 22 bytes for its name, 7 more, and its data, which are texts of at most 60.
        many = -(-rest // 89)
        signs = rest - 29 * many
        texts = ["t" * (signs // many + (at < signs % many)) for at in range(many)]
        return [((f"u{at:018d}x",), "text", 5, text) for at, text in enumerate(texts)]

    def test_last_place_that_can_be_told(self):
        end, other = ("end", "net"), ("b", "end", "net")
        for place, spare in [(16370, 2), (16383, 1), (16384, 0), (16379, 2), (16380, 1), (16400, 0)]:
            records = self.filled(place)
            message = (0, (), 0, [], records + [(end, "addr", 5, 1)], [(other, "addr", 5, 1)], [(other, "addr", 5, 1)])
            code = packed(message)
            self.assertEqual(message, unpacked(code))
            self.assertEqual(True, is_packed(code))
            self.assertEqual([3, 101, 110, 100], code[place:place + 4])
            first = place + 9 + 11
            told = code[first + 2:first + 4]
            if place <= 16383:
                self.assertEqual([192 + place // 256, place % 256], told)
            else:
                self.assertEqual([3, 101], told)
            if spare == 1:
                short = (0, (), 0, [], records + [(end, "addr", 5, 1)], [(("net",), "addr", 5, 1)], [])
                self.assertEqual([3, 110, 101, 116, 0], packed(short)[first:first + 5])
            if spare == 2:
                short = (0, (), 0, [], records + [(end, "addr", 5, 1)], [(("net",), "addr", 5, 1)], [])
                self.assertEqual([192 + (place + 4) // 256, (place + 4) % 256], packed(short)[first:first + 2])

    def test_names_of_many_records(self):
        names = [large_name(255, label) for label in "abcdefghijklmnopqrstuvwxyz0123456789"]
        records = [(name, "back", 5, tuple([label[:-2] + "-7" for label in name[:-1]])) for name in names]
        message = (0, (), 0, [], records, records[:12], records[:12])
        code = packed(message)
        self.assertEqual(message, unpacked(code))
        self.assertLess(16383, len(code))
        self.assertEqual(code, packed(unpacked(code)))


class CutTest(unittest.TestCase):
    def test_each_size(self):
        for message in [FULL, EMPTY] + [random_message(seed, 4) for seed in range(25)]:
            for most in range(packed_size(message) + 3):
                self.assertEqual(self.by_hand(message, most), cut_to(message, most))

    def by_hand(self, message, most):
        parts = [list(part) for part in message[4:]]
        flags = message[1]
        while True:
            found = (message[0], flags) + message[2:4] + tuple(parts)
            if packed_size(found) <= most:
                return found
            left = [part for part in parts[::-1] if part]
            if not left:
                return None
            if not parts[2]:
                flags = tuple(sorted(set(flags) | {"cut"}))
            left[0].pop()

    def test_by_hand(self):
        whole = packed_size(FULL)
        self.assertEqual([FULL, FULL], [cut_to(FULL, whole), cut_to(FULL, 10 ** 59)])
        self.assertEqual(FULL[:6] + (FULL[6][:2],), cut_to(FULL, whole - 1))
        bare = packed_size(FULL[:4] + ([], [], []))
        self.assertEqual([None, None, ("cut", "deep", "reply", "sure")], [cut_to(FULL, 0), cut_to(FULL, bare - 1), cut_to(FULL, bare)[1]])
        already = FULL[:1] + (("cut",),) + FULL[2:]
        self.assertEqual([("cut",), ("cut",)], [cut_to(already, bare)[1], cut_to(already, whole)[1]])
        self.assertTrue(is_message(cut_to(FULL, bare)))

    def test_number(self):
        for number in [-1, -10 ** 59]:
            with self.assertRaises(InvalidNumber) as caught:
                cut_to(FULL, number)
            self.assertEqual(number, caught.exception.value)


class ErrorsTest(unittest.TestCase):
    CALLS = [plain_bytes, packed, packed_size, spared, lambda message: cut_to(message, -1)]

    def test_no_messages(self):
        for value in NOTHING_AT_ALL + [list(FULL), FULL[:6], FULL[:4] + ([START, None], [], []), nested(list, 99)]:
            for call in self.CALLS:
                with self.assertRaises(InvalidMessage) as caught:
                    call(value)
                self.assertEqual(value, caught.exception.value)

    def test_sizes_of_names(self):
        for many, is_right in [(255, True), (256, False)]:
            name = large_name(many)
            self.assertEqual(many, size(name))
            for message in [
                    (0, (), 0, [(name, "addr")], [], [], []), (0, (), 0, [(WWW, "addr")], [(name, "addr", 5, 1)], [], []),
                    (0, (), 0, [], [], [(WWW, "back", 5, name)], []), (0, (), 0, [], [], [], [(WWW, "mail", 5, (1, name))]),
                    (0, (), 0, [], [], [], [START, START[:3] + ((name, 1, 2, 3, 4, 5),)])]:
                self.assertTrue(is_message(message))
                for call in self.CALLS[:4]:
                    if is_right:
                        call(message)
                    else:
                        with self.assertRaises(InvalidMessage) as caught:
                            call(message)
                        self.assertEqual(message, caught.exception.value)
                        self.assertIsNot(message[3], caught.exception.value[3])
                if is_right:
                    self.assertEqual(message, unpacked(packed(message)))
