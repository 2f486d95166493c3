"""How many labels and names there are, and the numbering of labels."""

import unittest
from itertools import product

from rootward.errors import InvalidLabel, InvalidNumber
from rootward.labels import is_label, label_but, label_index, labels_of, names_of, nth_label, size
from tests.samples import NOTHING_AT_ALL

SIGNS = "-0123456789abcdefghijklmnopqrstuvwxyz"


def labels_by_hand(length):
    return ["".join(signs) for signs in product(SIGNS, repeat=length) if is_label("".join(signs))]


class CountTest(unittest.TestCase):
    def test_labels(self):
        self.assertEqual([0, 36, 1296, 36 * 37 * 36], [labels_of(length) for length in range(4)])
        self.assertEqual([36 * 37 ** 17 * 36, 36 * 37 ** 18 * 36, 0, 0], [labels_of(n) for n in [19, 20, 21, 10 ** 59]])
        for length in range(4):
            self.assertEqual(len(labels_by_hand(length)), labels_of(length))

    def test_names(self):
        self.assertEqual([0, 1, 0, 36, 1296, 49248], [names_of(n) for n in range(6)])
        one, two, three = [labels_by_hand(length) for length in [1, 2, 3]]
        names = [(), *product(one), *product(two), *product(three), *product(one, one)]
        self.assertEqual([names_of(n) for n in range(6)], [len([n for n in names if size(n) == s]) for s in range(6)])

    def test_sizes_of_two_labels(self):
        # By hand: one label, or two, or more of them, all signs and dots together with the 1 of the root.
        two = labels_of(1) * labels_of(2) * 2 + labels_of(4)
        self.assertEqual(two, names_of(6))
        self.assertEqual(labels_of(1) ** 3 + labels_of(2) ** 2 + 2 * labels_of(1) * labels_of(3) + labels_of(5), names_of(7))

    def test_label_of_most_signs(self):
        self.assertEqual(names_of(22) - labels_of(20), sum([labels_of(n) * names_of(21 - n) for n in range(1, 20)]))
        self.assertEqual(names_of(23), sum([labels_of(n) * names_of(22 - n) for n in range(1, 21)]))

    def test_great_size(self):
        numbers = [0, 1]
        for total in range(2, 401):
            numbers.append(sum([labels_of(n) * numbers[total - 1 - n] for n in range(1, min(20, total - 1) + 1)]))
        self.assertEqual(numbers[400], names_of(400))
        self.assertEqual(numbers[399], names_of(399))

    def test_below_zero(self):
        for number in [-1, -2, -10 ** 59]:
            for call in [labels_of, names_of, nth_label]:
                with self.assertRaises(InvalidNumber) as caught:
                    call(number)
                self.assertEqual(number, caught.exception.value)


class NumberingTest(unittest.TestCase):
    def test_in_order(self):
        labels = labels_by_hand(1) + labels_by_hand(2) + labels_by_hand(3)
        for index, label in enumerate(labels):
            self.assertEqual(label, nth_label(index))
            self.assertEqual(index, label_index(label))

    def test_bounds_of_lengths(self):
        ahead = 0
        for length in range(1, 21):
            last = ahead + labels_of(length) - 1
            self.assertEqual("0" + "-" * (length - 2) + "0" * (length > 1), nth_label(ahead))
            self.assertEqual("z" * length, nth_label(last))
            if length > 1:
                self.assertEqual("z" * (length - 1), nth_label(ahead - 1))
                self.assertEqual("0" + "-" * (length - 2) + "1", nth_label(ahead + 1))
                self.assertEqual("z" * (length - 1) + "y", nth_label(last - 1))
            for index in [ahead, ahead + 1, (ahead + last) // 2, last - 1, last]:
                self.assertEqual(index, label_index(nth_label(index)))
            ahead = last + 1
        for index in [ahead, ahead + 1, 10 ** 59]:
            with self.assertRaises(InvalidNumber) as caught:
                nth_label(index)
            self.assertEqual(index, caught.exception.value)

    def test_no_label(self):
        for value in NOTHING_AT_ALL + ["*", "", "-", "a-", "A", "a" * 21, ("a",), ["a"], 0, 36]:
            with self.assertRaises(InvalidLabel) as caught:
                label_index(value)
            self.assertEqual(value, caught.exception.value)
        refused = [["a"]]
        with self.assertRaises(InvalidLabel) as caught:
            label_index(refused)
        self.assertIsNot(refused, caught.exception.value)
        self.assertIsNot(refused[0], caught.exception.value[0])

    def test_label_but(self):
        self.assertEqual("0", label_but([]))
        self.assertEqual("0", label_but(["1", "*", "net"]))
        self.assertEqual("1", label_but(["0", "2"]))
        self.assertEqual("00", label_but(labels_by_hand(1)))
        self.assertEqual("01", label_but(labels_by_hand(1) + ["00"]))
        self.assertEqual("z", label_but(labels_by_hand(1)[:35]))
