"""Messages as bytes, plainly and as short as they go."""

from rootward.errors import InvalidMessage, InvalidNumber
from rootward.messages import check_message
from rootward.nameparts import weight
from rootward.records import KINDS, NAMING, names_in
from rootward.values import rebuilt

FLAG_BITS = {"cut": 1, "deep": 2, "deeper": 4, "reply": 8, "sure": 16}
GREATEST_SIZE = 255
# A byte from here on begins a place at which the rest of a name stands; no later place can be told.
ELSEWHERE = 192
LAST_PLACE = 16383


def plain_bytes(message):
    """Return the bytes of a message in which all names are written in full."""
    _check_sizes(message)
    return _written(message, False)[0]


def packed(message):
    """Return the shortest bytes of a message."""
    _check_sizes(message)
    return _written(message, True)[0]


def packed_size(message):
    """Return the number of the shortest bytes of a message."""
    return len(packed(message))


def cut_to(message, size):
    """Return a message without as few records at its end as possible, in so many bytes, None if none will do."""
    _check_sizes(message)
    if size < 0:
        raise InvalidNumber(size)
    # What is written behind a record changes nothing of what is written ahead of it.
    fitting = [end for end in _written(message, True)[1] if end <= size]
    if len(fitting) == 0:
        return None
    number, flags, status, questions, answers, above, beside = message
    left = len(fitting) - 1
    if left < len(answers) + len(above):
        flags = tuple(sorted({word for word in flags + ("cut",)}))
    left_above = max(0, left - len(answers))
    left_beside = max(0, left_above - len(above))
    return (number, flags, status, list(questions), answers[:left], above[:left_above], beside[:left_beside])


def spared(message):
    """Return how many bytes fewer the shortest bytes of a message are than the plain ones."""
    return len(plain_bytes(message)) - len(packed(message))


def _check_sizes(message):
    """Raise InvalidMessage if any object is no message, or if a name in it is too large for bytes."""
    check_message(message)
    names = [name for name, _ in message[3]]
    for record in message[4] + message[5] + message[6]:
        names.extend([record[0]] + names_in(record))
    if any([weight(name) > GREATEST_SIZE for name in names]):
        raise InvalidMessage(rebuilt(message))


def _written(message, is_packed):
    """Return the bytes of a message, and the list of how many there are ahead of its records and behind each."""
    number, flags, status = message[:3]
    writing = Writing(is_packed)
    writing.put_whole(number, 2)
    writing.put_whole(sum([FLAG_BITS[flag] for flag in flags]), 1)
    writing.put_whole(status, 1)
    for part in message[3:]:
        writing.put_whole(len(part), 2)
    for name, kind in message[3]:
        writing.put_name(name)
        writing.put_kind(kind)
    ends = [len(writing.code)]
    for record in message[4] + message[5] + message[6]:
        writing.put_record(record)
        ends.append(len(writing.code))
    return (writing.code, ends)


class Writing:
    """Bytes that are written one after the other.

    A rest of a name that was written as labels is told by its place, the longest one first. That is shortest: it is
    shorter than any other way to write the name, and no other way brings a rest to an earlier place, as each rest is
    written as labels where it first comes anyway."""

    def __init__(self, is_packed):
        self.is_packed = is_packed
        self.code = []
        self.place_of = {}

    def put_whole(self, number, many):
        """Write an integer as so many bytes, the highest one first."""
        self.code.extend(_bytes_of(number, many))

    def put_kind(self, kind):
        """Write the byte of a kind."""
        self.put_whole(KINDS.index(kind) + 1, 1)

    def put_name(self, name):
        """Write a name."""
        for at in range(len(name)):
            rest = name[at:]
            if self.is_packed and rest in self.place_of:
                self.put_whole(ELSEWHERE * 256 + self.place_of[rest], 2)
                return
            if len(self.code) <= LAST_PLACE:
                self.place_of.setdefault(rest, len(self.code))
            self.put_whole(len(name[at]), 1)
            self.put_text(name[at])
        self.put_whole(0, 1)

    def put_text(self, text):
        """Write the numbers of the signs of a text."""
        self.code.extend([ord(sign) for sign in text])

    def put_record(self, record):
        """Write a record."""
        name, kind, age, data = record
        self.put_name(name)
        self.put_kind(kind)
        self.put_whole(age, 4)
        start = len(self.code) + 2
        self.put_whole(0, 2)
        self.put_data(kind, data)
        self.code[start - 2:start] = _bytes_of(len(self.code) - start, 2)

    def put_data(self, kind, data):
        """Write data of a kind."""
        if kind == "addr":
            self.put_whole(data, 4)
        elif kind in NAMING:
            self.put_name(data)
        elif kind == "text":
            self.put_text(data)
        elif kind == "mail":
            self.put_whole(data[0], 2)
            self.put_name(data[1])
        else:
            self.put_name(data[0])
            for number in data[1:]:
                self.put_whole(number, 4)


def _bytes_of(number, many):
    """Return the list of so many bytes of an integer, the highest one first."""
    return [number >> 8 * place & 255 for place in reversed(range(many))]
