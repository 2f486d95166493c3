"""The error classes: their family, and the value that each keeps."""

import unittest

from rootward import errors
from rootward.errors import TreeError
from tests.samples import NOTHING_AT_ALL, Stranger

WORDS = """InvalidName InvalidKind InvalidLabel InvalidNumber InvalidRecord UnlikeAges OutOfZone InvalidZone
InvalidNames InvalidWord InvalidMove InvalidGap InvalidDeed InvalidSerial Unfit Unreachable InvalidMessage Unreadable
InvalidForest InvalidApex InvalidMachines InvalidTelling InvalidBooks InvalidViews InvalidTimeline InvalidPolicy
InvalidSchedule InvalidMoment InvalidEntry InvalidValue InvalidNet InvalidRun InvalidHistory InvalidTimers InvalidStand
InvalidPiece InvalidSearch InvalidText InvalidCommand UnknownNode TooMany Nothing NoBlock NotReady""".split()


class ErrorsTest(unittest.TestCase):
    def setUp(self):
        self.classes = [getattr(errors, word) for word in WORDS]

    def test_family(self):
        self.assertEqual((ValueError,), TreeError.__bases__)
        for one in self.classes:
            self.assertEqual((TreeError,), one.__bases__)
            self.assertEqual([one, TreeError, ValueError, Exception, BaseException, object], list(one.__mro__))

    def test_no_other_classes(self):
        found = [word for word, one in vars(errors).items() if isinstance(one, type)]
        self.assertEqual(sorted(WORDS + ["TreeError"]), sorted(found))

    def test_value_is_kept_itself(self):
        for one in [TreeError] + self.classes:
            for value in NOTHING_AT_ALL + [Stranger(), one, [1, [2]], {"a": [1]}, 1.5, "text", ("a", "net")]:
                self.assertIs(value, one(value).value)
                self.assertIs(value, one(value=value).value)

    def test_one_argument(self):
        for one in [TreeError] + self.classes:
            with self.assertRaises(TypeError):
                one()
            with self.assertRaises(TypeError):
                one(1, 2)
            with self.assertRaises(TypeError):
                one(other=1)

    def test_caught_by_its_class_alone(self):
        for one in self.classes:
            for other in self.classes + [TreeError, ValueError]:
                caught = False
                try:
                    raise one([5])
                except other as error:
                    caught = True
                    self.assertEqual([5], error.value)
                except TreeError:
                    pass
                self.assertEqual(other in (one, TreeError, ValueError), caught)
