"""Messages out of bytes."""

from rootward.errors import Unreadable
from rootward.labels import is_asked, is_name
from rootward.messages import FLAGS, MOST_NUMBER, MOST_STATUS
from rootward.nameparts import weight
from rootward.records import KINDS, MOST_AGE, NAMING, is_data
from rootward.values import is_between
from rootward.wires import ELSEWHERE, FLAG_BITS, GREATEST_SIZE, packed

MOST_FLAGS = 31
# The signs of texts from the blank on, by their numbers; a line feed stands where a sign is that no text has.
SIGNS = " !\"#$\n&'()*+,-./0123456789:;<=>?@ABCDEFGHIJKLMNOPQRSTUVWXYZ[\\]^_`abcdefghijklmnopqrstuvwxyz{|}~"
FIRST_SIGN = 32


def unpacked(code):
    """Return the message of a list of bytes, or raise Unreadable."""
    if not isinstance(code, list) or not all([is_between(byte, 0, 255) for byte in code]):
        raise Unreadable(0)
    reading = Reading(code)
    number, bits, status = reading.whole(2, MOST_NUMBER), reading.whole(1, MOST_FLAGS), reading.whole(1, MOST_STATUS)
    many = [reading.whole(2, MOST_NUMBER) for _ in range(4)]
    questions = [reading.question() for _ in range(many[0])]
    answers, above, beside = [[reading.full_record() for _ in range(count)] for count in many[1:]]
    if reading.at < len(code):
        raise Unreadable(reading.at)
    flags = tuple([flag for flag in FLAGS if bits & FLAG_BITS[flag] > 0])
    return (number, flags, status, questions, answers, above, beside)


def is_packed(code):
    """Return whether any object is the shortest bytes of a message as `packed` writes them."""
    message = _message_of(code)
    return message is not None and packed(message) == code


def is_shortest(code):
    """Return whether any object is bytes of a message, as few as there can be."""
    message = _message_of(code)
    return message is not None and len(packed(message)) == len(code)


def _message_of(code):
    """Return the message of any object, None if it is no bytes of one."""
    try:
        return unpacked(code)
    except Unreadable:
        return None


def same_message(one, other):
    """Return True if two lists of bytes are of the same message, otherwise False."""
    return unpacked(one) == unpacked(other)


class Reading:
    """Bytes that are read part by part; each part is read whole, or Unreadable tells where it begins."""

    def __init__(self, code):
        self.code = code
        self.at = 0
        # What is read at each place at which a label begins, of names that have been read.
        self.rest_at = {}

    def whole(self, many, most):
        """Read an integer from 0 to a number, of so many bytes."""
        return self._whole(many, most, self.at)

    def _whole(self, many, most, start):
        """Read an integer of a part that began at a place."""
        end = self.at + many
        value = 0
        for byte in self.code[self.at:end]:
            value = value * 256 + byte
        if end > len(self.code) or value > most:
            raise Unreadable(start)
        self.at = end
        return value

    def kind(self):
        """Read a kind."""
        start = self.at
        byte = self.whole(1, len(KINDS))
        if byte == 0:
            raise Unreadable(start)
        return KINDS[byte - 1]

    def question(self):
        """Read a question."""
        start = self.at
        name = self._name(start)
        if not is_asked(name):
            raise Unreadable(start)
        return (name, self.kind())

    def full_record(self):
        """Read a record."""
        name = self._name(self.at)
        kind = self.kind()
        age = self.whole(4, MOST_AGE)
        many = self.whole(2, MOST_NUMBER)
        start = self.at
        data = self._data(kind, many)
        if self.at != start + many or not is_data(kind, data):
            raise Unreadable(start)
        return (name, kind, age, data)

    def _name(self, start):
        """Read a name of a part that began at a place."""
        labels, places = [], []
        length = self._whole(1, 255, start)
        while 0 < length < ELSEWHERE:
            places.append(self.at - 1)
            labels.append(self._signs(length, start))
            length = self._whole(1, 255, start)
        rest = () if length == 0 else self._rest(length, start)
        name = tuple(labels) + rest
        if not is_name(name) or weight(name) > GREATEST_SIZE:
            raise Unreadable(start)
        for index, place in enumerate(places):
            self.rest_at[place] = name[index:]
        return name

    def _rest(self, first, start):
        """Read the rest of a name that stands at the place of which the first byte is known."""
        place = (first - ELSEWHERE) * 256 + self._whole(1, 255, start)
        if place not in self.rest_at:
            raise Unreadable(start)
        return self.rest_at[place]

    def _signs(self, many, start):
        """Read a text of so many signs, one that no text has in the place of others."""
        end = self.at + many
        if end > len(self.code):
            raise Unreadable(start)
        numbers = [byte - FIRST_SIGN for byte in self.code[self.at:end]]
        self.at = end
        return "".join([SIGNS[number] if 0 <= number < len(SIGNS) else "\n" for number in numbers])

    def _data(self, kind, many):
        """Read data of a kind for which so many bytes are told; whether they are data is not looked at."""
        start = self.at
        if kind == "text":
            return self._signs(many, start)
        if kind == "addr":
            return self._number(4, start)
        if kind in NAMING:
            return self._name(start)
        if kind == "mail":
            return (self._number(2, start), self._name(start))
        return (self._name(start),) + tuple([self._number(4, start) for _ in range(5)])

    def _number(self, many, start):
        """Read an integer of so many bytes of a part that began at a place."""
        return self._whole(many, 256 ** 4, start)
