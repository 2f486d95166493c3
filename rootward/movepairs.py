"""For which names the chases by two books of moves come to unlike ends.

Both books read a name at once. Of each one a side is known, a tuple (what, word): READ with the word that is read and
not moved yet; ENDED with the end of the last name that is known so far; NEVER with None if the chase does not end."""

from rootward.movereads import ENDED, OTHER, READ
from rootward.rowtools import explored

NEVER = "never"
# Instead of a pair of sides: the ends are unlike, or they are alike whatever labels come.
APART = "apart"
ALIKE = "alike"


def side_behind(reading, side, label):
    """Return the side of a book behind a label."""
    what, word = side
    if what == ENDED:
        return (ENDED, (label,) + word)
    if what == NEVER:
        return side
    what, word, _ = reading.fate(word, label)
    return (what, word) if what in (READ, ENDED) else (NEVER, None)


def last_of(reading, side):
    """Return the last name of the chase if there are no more labels, None if it does not end."""
    what, word = side
    if what == READ:
        what, word, _ = reading.ends[word]
    return word if what == ENDED else None


class Pairing:
    """Two books that read names at once."""

    def __init__(self, one, other):
        self.readings = (one, other)
        self.labels = sorted({sign for sign in list(one.signs) + list(other.signs) if sign != OTHER})

    def settled(self, pair):
        """Return a pair of sides, or the word for it if it does not matter which labels come.

        Where the ends are unlike without any more labels, no name with more of them is the first one."""
        one, other = [last_of(reading, side) for reading, side in zip(self.readings, pair)]
        if one != other:
            return APART
        return pair if READ in (pair[0][0], pair[1][0]) else ALIKE

    def behind(self, pair, label):
        """Return what is known of the two behind a label."""
        sides = [side_behind(reading, side, label) for reading, side in zip(self.readings, pair)]
        return self.settled(tuple(sides))

    def look(self, pair):
        """Return the row of what is known, with that which is known behind it told as itself."""
        if pair in (APART, ALIKE):
            return (pair == APART, [], pair)
        roads = [(label, self.behind(pair, label)) for label in self.labels]
        return (False, roads, self.behind(pair, OTHER))

    def rows(self):
        """Return the rows of a machine for the names with unlike ends, but some that are below others of them."""
        return explored(self.settled(((READ, ()), (READ, ()))), self.look)
