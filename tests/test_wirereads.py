"""Messages out of bytes: what can't be read, and where it begins."""

import random
import unittest

from rootward.errors import Unreadable
from rootward.messages import is_message
from rootward.wirereads import is_packed, is_shortest, same_message, unpacked
from rootward.wires import packed, plain_bytes
from tests import plainwires
from tests.samplemessages import EMPTY, FULL, WWW, large_name, random_message
from tests.samples import NOTHING_AT_ALL, Stranger, nested

A_QUESTION = [0, 0, 0, 0, 0, 1, 0, 0, 0, 0, 0, 0]
TWO_QUESTIONS = [0, 0, 0, 0, 0, 2, 0, 0, 0, 0, 0, 0]
AN_ANSWER = [0, 0, 0, 0, 0, 0, 0, 1, 0, 0, 0, 0]


def answer_of(kind, data, size=None):
    """The bytes of an answer of the root."""
    many = len(data) if size is None else size
    return AN_ANSWER + [0, kind, 0, 0, 0, 5, many // 256, many % 256] + data


class UnreadableTest(unittest.TestCase):
    def raises(self, place, code):
        for call in [unpacked, lambda value: same_message(value, [0] * 12), lambda value: same_message([0] * 12, value)]:
            with self.assertRaises(Unreadable) as caught:
                call(code)
            self.assertEqual(place, caught.exception.value, code)
        self.assertEqual([False, False], [is_packed(code), is_shortest(code)])

    def check(self, code):
        """Look at some bytes as the second reading tells them."""
        wanted = plainwires.read(code)
        if isinstance(wanted, int):
            with self.assertRaises(Unreadable) as caught:
                unpacked(code)
            self.assertEqual(wanted, caught.exception.value, code)
        else:
            self.assertEqual(wanted, unpacked(code), code)

    def test_any_object(self):
        for value in NOTHING_AT_ALL + [nested(list, 99), (0,) * 12, [0] * 11 + [True], [0] * 11 + [256], [0] * 11 + [-1], [0] * 11 + ["0"], bytes(12),
                                       "0" * 12, {0: 0}, Stranger(), [0] * 11 + [None], [0] * 11 + [[0]], [False] * 12, [10 ** 59]]:
            self.raises(0, value)
        self.raises(0, [])

    def test_head(self):
        for many, place in enumerate([0, 0, 2, 3, 4, 4, 6, 6, 8, 8, 10, 10]):
            self.raises(place, [0] * many)
        self.raises(2, [0, 0, 32] + [0] * 9)
        self.raises(2, [0, 0, 255])
        self.raises(3, [0, 0, 31, 16] + [0] * 8)
        self.raises(12, [0] * 13)
        self.raises(12, [0] * 20)
        for place in [4, 6, 8, 10]:
            self.raises(12, [0] * (place + 1) + [1] + [0] * (10 - place))
            self.raises(12, [0] * place + [255, 255] + [0] * (10 - place))
        self.assertEqual((65535, ("cut", "deep", "deeper", "reply", "sure"), 15, [], [], [], []), unpacked([255, 255, 31, 15] + [0] * 8))

    def test_beginnings(self):
        for message in [FULL] + [random_message(seed) for seed in range(30)]:
            for code in [packed(message), plain_bytes(message)]:
                for many in range(len(code)):
                    self.assertIsInstance(plainwires.read(code[:many]), int)
                    self.check(code[:many])
                self.raises(len(code), code + [0])
                self.raises(len(code), code + [1, 2, 3])

    def test_each_byte_changed_alone(self):
        for message in [FULL, random_message(3), random_message(8)]:
            code = packed(message)
            for place in range(len(code)):
                for byte in range(256):
                    if byte != code[place]:
                        self.check(code[:place] + [byte] + code[place + 1:])

    def test_by_chance(self):
        for seed in range(3000):
            chance = random.Random(seed)
            code = packed(random_message(chance.randrange(200)))
            for _ in range(chance.randrange(1, 4)):
                place = chance.randrange(len(code))
                code[place:place + chance.randrange(3)] = [chance.choice([0, 1, 2, 12, 97, 192, chance.randrange(256)]) for _ in range(chance.randrange(3))]
            self.check(code)

    def test_names(self):
        good = [([0], ()), ([1, 97, 0], ("a",)), ([1, 97, 2, 98, 45, 0], None), ([20] + [97] * 20 + [0], ("a" * 20,)), ([3, 97, 45, 98, 0], ("a-b",)),
                ([1, 57, 0], ("9",)), ([21] + [97] * 21 + [0], None), ([191] + [97] * 191 + [0], None), ([1, 65, 0], None), ([1, 46, 0], None),
                ([1, 32, 0], None), ([1, 42, 0], None), ([1, 42, 1, 97, 0], None), ([1, 97, 1, 42, 0], None), ([1, 200, 0], None), ([1, 37, 0], None),
                ([2, 45, 97, 0], None), ([1, 127, 0], None), ([1, 10, 0], None), ([1, 0, 0], None), ([64, 97, 0], None)]
        for written, name in good:
            code = A_QUESTION + written + [1]
            if name is None:
                self.raises(12, code)
            else:
                self.assertEqual([(name, "addr")], unpacked(code)[3])
        for cut in range(4):
            self.raises(12, A_QUESTION + [2, 97, 98, 0][:cut])
        self.raises(16, A_QUESTION + [2, 97, 98, 0])
        for kind in [0, 9, 255]:
            self.raises(13, A_QUESTION + [0, kind])
        self.raises(13, A_QUESTION + [0])

    def test_wild_names(self):
        wild = [1, 42, 1, 97, 0]
        record = [1, 0, 0, 0, 5, 0, 4, 0, 0, 0, 7]
        self.assertEqual([(("*", "a"), "addr", 5, 7)], unpacked(AN_ANSWER + wild + record)[4])
        self.raises(12, AN_ANSWER + [1, 97, 1, 42, 0] + record)
        self.raises(12, AN_ANSWER + [1, 42, 1, 42, 0] + record)
        two = [0, 0, 0, 0, 0, 0, 0, 2, 0, 0, 0, 0]
        self.assertEqual((("*", "a"), "addr", 5, 7), unpacked(two + wild + record + [192, 12] + record)[4][1])
        self.assertEqual((("a",), "addr", 5, 7), unpacked(two + wild + record + [192, 14] + record)[4][1])
        self.raises(28, two + wild + record + [1, 98, 192, 12] + record)
        # The owner may have `*`, the name in the data may not.
        place = 12 + len(wild) + 7
        self.raises(place, AN_ANSWER + wild + [3, 0, 0, 0, 5, 0, 2, 192, 12])
        self.assertEqual(("a",), unpacked(AN_ANSWER + wild + [3, 0, 0, 0, 5, 0, 2, 192, 14])[4][0][3])

    def test_places(self):
        first = [1, 97, 2, 98, 99, 0, 1]
        good = {12: ("a", "bc"), 14: ("bc",)}
        for place in range(0, 400):
            code = TWO_QUESTIONS + first + [1, 120, 192 + place // 256, place % 256, 2]
            if place in good:
                self.assertEqual((("x",) + good[place], "alias"), unpacked(code)[3][1])
            else:
                self.raises(19, code)
        for written in [[192, 19], [192, 20], [1, 120, 192, 19], [1, 120, 192, 21], [255, 255], [192], [192, 13], [192, 16], [192, 17], [192, 18]]:
            self.raises(19, TWO_QUESTIONS + first + written + [1])
        self.raises(12, A_QUESTION + [192, 12, 1])
        self.raises(12, A_QUESTION + [192, 0, 1])
        self.raises(12, A_QUESTION + [1, 97, 192, 12, 1])
        three = [0, 0, 0, 0, 0, 3, 0, 0, 0, 0, 0, 0]
        chained = three + first + [1, 120, 192, 14, 1] + [192, 19, 1]
        self.assertEqual([("a", "bc"), ("x", "bc"), ("x", "bc")], [name for name, _ in unpacked(chained)[3]])
        self.raises(24, three + first + [1, 120, 192, 14, 1] + [192, 21, 1])

    def test_sizes_of_names(self):
        for many, is_right in [(255, True), (256, False)]:
            name = large_name(many)
            code = [byte for label in name for byte in [len(label)] + [ord(sign) for sign in label]] + [0]
            for told in [A_QUESTION + code + [1], TWO_QUESTIONS + [1, 97, 0, 1] + code + [1]]:
                if is_right:
                    self.assertEqual(name, unpacked(told)[3][-1][0])
                else:
                    self.raises(len(told) - len(code) - 1, told)
            below = code[1 + code[0]:]
            told = TWO_QUESTIONS + below + [1] + code[:1 + code[0]] + [192, 12, 1]
            if is_right:
                self.assertEqual(name, unpacked(told)[3][1][0])
            else:
                self.raises(12 + len(below) + 1, told)
        self.assertEqual(("a",) * 127, unpacked(A_QUESTION + [1, 97] * 127 + [0, 1])[3][0][0])
        self.raises(12, A_QUESTION + [1, 97] * 128 + [0, 1])
        self.raises(12, A_QUESTION + [1, 97] * 2990 + [0, 1])

    def test_data(self):
        good = [(1, [0, 0, 1, 2], 258), (1, [255] * 4, 2 ** 32 - 1), (2, [1, 97, 0], ("a",)), (2, [0], ()), (4, [255, 255, 0], (65535, ())), (7, [], ""),
                (7, [32, 126], " ~"), (7, [34, 92], '"\\'), (7, [97] * 60, "a" * 60), (6, [0] + [255] * 4 + [127, 255, 255, 255] * 4, ((), 2 ** 32 - 1) + (2 ** 31 - 1,) * 4)]
        for kind, data, value in good:
            self.assertEqual(value, unpacked(answer_of(kind, data))[4][0][3])
            self.raises(20, answer_of(kind, data, len(data) + 1))
            self.raises(20, answer_of(kind, data, len(data) + 256))
            if kind != 7 and len(data) > 1:
                self.raises(20, answer_of(kind, data, len(data) - 1))
            if kind != 7:
                self.raises(20, answer_of(kind, data + [0]))
            self.raises(20 + len(data), answer_of(kind, data) + [0])
        wrong = [(1, []), (1, [0, 0, 0]), (1, [0] * 5), (2, []), (2, [1, 97]), (2, [1, 97, 0, 0]), (2, [1, 42, 0]), (2, [192, 20]), (2, [192, 12]), (4, [0, 0]),
                 (4, [0]), (4, [0, 1, 1, 42, 0]), (7, [31]), (7, [127]), (7, [37]), (7, [10]), (7, [200]), (7, [97] * 61), (6, [0] + [0] * 19), (6, [0] + [0] * 21),
                 (6, [0, 0, 0, 0, 0, 128, 0, 0, 0] + [0] * 12), (6, [0] * 17 + [128, 0, 0, 0]), (6, []), (3, [1, 65, 0]), (5, [21] + [97] * 21 + [0]), (8, [1])]
        for kind, data in wrong:
            self.raises(20, answer_of(kind, data))

    def test_parts_of_records(self):
        code = AN_ANSWER + [1, 97, 0, 1, 0, 0, 0, 5, 0, 4, 0, 0, 0, 7]
        for many, place in [(12, 12), (14, 12), (15, 15), (16, 16), (19, 16), (20, 20), (21, 20), (22, 22), (25, 22)]:
            self.raises(place, code[:many])
        self.raises(15, code[:15] + [0] + code[16:])
        self.raises(15, code[:15] + [9] + code[16:])
        self.raises(16, code[:16] + [128] + code[17:])
        self.raises(22, code[:20] + [0, 3] + code[22:])
        self.raises(22, code[:20] + [255, 255] + code[22:])
        self.assertEqual(2 ** 31 - 1, unpacked(code[:16] + [127, 255, 255, 255] + code[20:])[4][0][2])
        # A place in the data of a text is none at which a label begins.
        both = [0, 0, 0, 0, 0, 0, 0, 1, 0, 1, 0, 0] + [0, 7, 0, 0, 0, 5, 0, 3, 1, 97, 0]
        self.raises(20, both + [192, 20, 1, 0, 0, 0, 5, 0, 4, 0, 0, 0, 7])
        texts = [0, 0, 0, 0, 0, 0, 0, 1, 0, 1, 0, 0] + [0, 7, 0, 0, 0, 5, 0, 3, 97, 97, 97]
        self.raises(23, texts + [192, 20, 1, 0, 0, 0, 5, 0, 4, 0, 0, 0, 7])
        named = [0, 0, 0, 0, 0, 0, 0, 1, 0, 1, 0, 0] + [0, 3, 0, 0, 0, 5, 0, 3, 1, 97, 0]
        self.assertEqual(("a",), unpacked(named + [192, 20, 1, 0, 0, 0, 5, 0, 4, 0, 0, 0, 7])[5][0][0])

    def test_six_thousand_bytes(self):
        code = [0, 0, 0, 0, 7, 203] + [0] * 6 + [1, 97] * 127 + [0, 1]
        code = code + [192, 12, 1] * ((6000 - len(code)) // 3)
        code[4], code[5] = divmod((len(code) - 12 - 256) // 3 + 1, 256)
        message = unpacked(code)
        self.assertEqual({("a",) * 127}, {name for name, _ in message[3]})
        self.assertTrue(is_packed(code))


class JudgesTest(unittest.TestCase):
    def test_whatever_is_read_can_be_written(self):
        for seed in range(2000):
            chance = random.Random(seed)
            code = packed(random_message(chance.randrange(200)))
            place = chance.randrange(len(code))
            code[place] = chance.choice([0, 1, 12, 97, 98, 192, chance.randrange(256)])
            message = plainwires.read(code)
            if not isinstance(message, int):
                self.assertTrue(is_message(message))
                self.assertEqual(message, unpacked(packed(message)))
                self.assertEqual([packed(message) == code, len(packed(message)) == len(code)], [is_packed(code), is_shortest(code)])
                self.assertTrue(same_message(code, plain_bytes(message)))

    def test_others_with_as_few_bytes(self):
        code = packed((0, (), 0, [(("a",), "addr"), (("a",), "alias"), (("a",), "back")], [], [], []))
        self.assertEqual([1, 97, 0, 1, 192, 12, 2, 192, 12, 3], code[12:])
        self.assertEqual([True, True], [is_packed(code), is_shortest(code)])
        plain = plain_bytes(unpacked(code))
        self.assertEqual([False, False], [is_packed(plain), is_shortest(plain)])
        # No other way has as few bytes, as a place that can be told spares a byte or more; so both tell the same.
        for seed in range(60):
            message = random_message(seed, 2)
            for other in plainwires.all_codes(message):
                self.assertEqual(is_packed(other), is_shortest(other))

    def test_same_message(self):
        self.assertTrue(same_message(packed(FULL), plain_bytes(FULL)))
        self.assertFalse(same_message(packed(FULL), packed(EMPTY)))
        question = packed((1, (), 0, [(WWW, "addr")], [], [], []))
        for place in [0, 1, 2, 3, 13, len(question) - 1]:
            self.assertFalse(same_message(question, question[:place] + [question[place] + 1] + question[place + 1:]))
        with self.assertRaises(Unreadable) as caught:
            same_message([0, 0, 99], [])
        self.assertEqual(2, caught.exception.value)
