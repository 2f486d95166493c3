"""For which names the chases by two books of moves come to unlike ends.

Both books read a name at once. Of each one a side is known, a tuple (what, word): READ with the word that is read and
not moved yet; ENDED with the end of the last name that is known so far; NEVER with None if the chase does not end."""

from rootward.movereads import ENDED, OTHER, READ
from rootward.rowtools import explored

NEVER = "never"
# A pair behind which all names come to unlike ends, or none does.
APART = "apart"
ALIKE = "alike"


def side_behind(reading, side, label):
    """Return the side of a book behind a label."""
    what, word = side
    if what == ENDED:
        return (ENDED, (label,) + word)
    if what == NEVER:
        return side
    what, word, _ = reading.fate(word, label)
    return (what, word) if what in (READ, ENDED) else (NEVER, None)


def last_of(reading, side):
    """Return the last name of the chase if there are no more labels, None if it does not end."""
    what, word = side
    if what == READ:
        what, word, _ = reading.ends[word]
    return word if what == ENDED else None


def ends_of_ends(reading):
    """Return all ends of what may stand at the end of a last name when a book has just moved it there."""
    found = {}
    for word in reading.words:
        sides = [side_behind(reading, (READ, word), sign) for sign in reading.signs]
        for last in [last_of(reading, (READ, word))] + [end for what, end in sides if what == ENDED]:
            if last is not None:
                for many in range(len(last) + 1):
                    found[last[len(last) - many:]] = True
    return found


class Pairing:
    """Two books that read names at once."""

    def __init__(self, one, other):
        self.readings = (one, other)
        self.ends = (ends_of_ends(one), ends_of_ends(other))
        self.labels = sorted({sign for sign in list(one.signs) + list(other.signs) if sign != OTHER})

    def settled(self, pair):
        """Return a pair of sides, or the word for it if it does not hang on any more labels."""
        (what, word), (other_what, other_word) = pair
        if what != READ and other_what != READ:
            return ALIKE if pair[0] == pair[1] else APART
        # The other book can't come to this end any more.
        if what == ENDED and word not in self.ends[1]:
            return APART
        if other_what == ENDED and other_word not in self.ends[0]:
            return APART
        return pair

    def behind(self, pair, label):
        """Return what is known of the two behind a label."""
        sides = [side_behind(reading, side, label) for reading, side in zip(self.readings, pair)]
        return self.settled(tuple(sides))

    def look(self, pair):
        """Return the row of a pair, with pairs told as themselves."""
        if pair in (APART, ALIKE):
            return (pair == APART, [], pair)
        one, other = [last_of(reading, side) for reading, side in zip(self.readings, pair)]
        roads = [(label, self.behind(pair, label)) for label in self.labels]
        return (one != other, roads, self.behind(pair, OTHER))

    def rows(self):
        """Return the rows of a machine for the names with unlike ends."""
        return explored(((READ, ()), (READ, ())), self.look)
