"""Moves of names by aliases and trees: one step, many steps, and how the chase of a name ends."""

from rootward.errors import InvalidMove, InvalidNumber
from rootward.labels import WILD, check_asked, is_asked
from rootward.movereads import ENDED, RING, Reading
from rootward.movesteps import Book, find_growth, find_ring, shows_growth
from rootward.nameparts import place
from rootward.values import is_between, rebuilt

WORDS = ("alias", "tree")
MOST_STEPS = 400
MOST_OF_GROWTH = 100000


class Moves:
    """Some moves, at most one with a name."""

    def __init__(self, moves):
        taken = {}
        for move in moves:
            if not _is_move(move) or move[1] in taken:
                raise InvalidMove(rebuilt(move))
            taken[move[1]] = move
        self._moves = [taken[name] for name in sorted(taken, key=place)]

    def __len__(self):
        return len(self._moves)

    def __eq__(self, other):
        return isinstance(other, Moves) and self._moves == other._moves

    def moves(self):
        """Return the moves, in the order of their names."""
        return list(self._moves)


def _is_move(value):
    if not isinstance(value, tuple) or len(value) != 3:
        return False
    return value[0] in WORDS and is_asked(value[1]) and is_asked(value[2])


def moves_of(zones):
    """Return the moves of all aliases, but those of wild names, and all trees of some zones."""
    records = [record for zone in zones for record in zone.records()]
    return Moves([(kind, name, data) for name, kind, _, data in records if kind in WORDS and name[:1] != (WILD,)])


def step(moves, name):
    """Return the name to which a name is moved, None if it is not."""
    check_asked(name)
    return Book(moves.moves()).moved(name)


def chase(moves, name, most):
    """Return the names that come after at most so many steps, the name itself at first."""
    check_asked(name)
    if not 0 <= most <= MOST_STEPS:
        raise InvalidNumber(most)
    book = Book(moves.moves())
    names = [name]
    while len(names) <= most and book.moved(names[-1]) is not None:
        names.append(book.moved(names[-1]))
    return names


def ending(moves, name):
    """Return how the chase of a name ends, comes to a ring, or grows."""
    check_asked(name)
    book = Book(moves.moves())
    what, last, steps = Reading(book).end(name)
    if what == ENDED:
        return ("ends", last, steps)
    if what == RING:
        return ("ring",) + find_ring(book, name)
    return ("grows",) + find_growth(book, name)


def judge_growth(moves, name, value):
    """Return whether any object shows that the chase of a name grows."""
    check_asked(name)
    if not _is_growth(value):
        return False
    return shows_growth(Book(moves.moves()), name, value[1], value[2], value[3])


def _is_growth(value):
    if not isinstance(value, tuple) or len(value) != 4 or value[0] != "grows":
        return False
    first, length, kept = value[1:]
    least_of_each = [(first, 0), (length, 1), (kept, 0)]
    return all([is_between(number, least, MOST_OF_GROWTH) for number, least in least_of_each])
