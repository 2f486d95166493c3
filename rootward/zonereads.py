"""Zones out of texts."""

from rootward.errors import Unreadable
from rootward.labels import is_asked
from rootward.nameparts import in_order
from rootward.records import MOST_AGE, is_kind
from rootward.textparts import read_asked, read_data, read_full_name, read_name, read_whole
from rootward.zones import Zone


def read_zone(text):
    """Return the zone of a text."""
    reading = _read(text)
    return Zone(reading.top, reading.told)


def read_names(text):
    """Return the names at which a text has records, in order."""
    return in_order(list({record[0]: True for record in _read(text).told}))


class Reading:
    """What the lines of a text have told so far."""

    def __init__(self, apex):
        self.top = apex
        self.origin = apex
        self.age = None
        self.owner = None
        self.told = []

    def take(self, line):
        """Take in a line without its remark; return whether it is as it has to be."""
        words = line.split(" ")
        if line == "":
            return True
        if len(words) != 2:
            return self._take_record(words[0], line[len(words[0]) + 1:])
        if words[0] == "origin":
            return self._take_origin(read_asked(words[1], self.origin))
        return words[0] == "age" and self._take_age(read_age(words[1]))

    def _take_origin(self, origin):
        if origin is not None:
            self.origin = origin
        return origin is not None

    def _take_age(self, age):
        if age is not None:
            self.age = age
        return age is not None

    def _take_record(self, owner_text, rest):
        """Take in a record of which the owner is told apart from what is behind the blank."""
        owner = self.owner if owner_text == "" else read_name(owner_text, self.origin)
        word, _, behind = rest.partition(" ")
        age = read_age(word)
        if age is None:
            age = self.age
        else:
            word, _, behind = behind.partition(" ")
        if owner is None or age is None or not is_kind(word):
            return False
        data = read_data(word, behind, self.origin)
        if data is not None:
            self.owner = owner
            self.told.append((owner, word, age, data))
        return data is not None


def read_age(text):
    """Return the age that a text is, None if it is none."""
    age = read_whole(text)
    return age if age is not None and age <= MOST_AGE else None


def _read(text):
    """Return what the lines of a text tell, or raise Unreadable for the first that is not as it has to be."""
    lines = text.split("\n")
    is_ended = lines[-1] == ""
    if is_ended:
        lines = lines[:-1]
    if len(lines) == 0:
        raise Unreadable(0)
    reading = Reading(_apex_told(lines[0]))
    for at, line in enumerate(lines[1:]):
        if not reading.take(_without_remark(line)):
            raise Unreadable(at + 1)
    if not is_ended:
        raise Unreadable(len(lines))
    return reading


def _apex_told(line):
    """Return the apex that the first line of a text tells, or raise Unreadable."""
    word, _, name = _without_remark(line).partition(" ")
    apex = read_full_name(name)
    if word != "zone" or not is_asked(apex):
        raise Unreadable(0)
    return apex


def _without_remark(line):
    """Return a line without its remark and the blanks ahead of it."""
    is_quoted = False
    is_marked = False
    for at, sign in enumerate(line):
        if sign == ";" and not is_quoted:
            return line[:at].rstrip(" ")
        if sign == "\"" and not is_marked:
            is_quoted = not is_quoted
        is_marked = sign == "\\" and is_quoted and not is_marked
    return line
