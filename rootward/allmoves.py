"""What moves make of all names: which chases end, where they come to, and where two books of moves differ."""

from rootward.movegoals import Coming
from rootward.movelongest import longest_rows, most_steps
from rootward.movepairs import Pairing
from rootward.movereads import ENDED, GROWS, OTHER, READ, RING, Reading
from rootward.moves import Moves
from rootward.movesteps import Book
from rootward.namesets import Names
from rootward.rowtools import end_state, first_of, shifted


def _reading(moves):
    return Reading(Book(moves.moves()))


def endless(moves):
    """Return the names whose chase never ends."""
    return _with_fates(moves, (RING, GROWS))


def in_rings(moves):
    """Return the names whose chase comes to a ring."""
    return _with_fates(moves, (RING,))


def growing(moves):
    """Return the names whose chase grows without end."""
    return _with_fates(moves, (GROWS,))


def _with_fates(moves, wanted):
    """Return the names whose chase ends in one of some ways."""
    reading = _reading(moves)
    states = {word: state for state, word in enumerate(reading.words)}
    stops = {ENDED: len(states), RING: len(states) + 1, GROWS: len(states) + 2}
    rows = []
    for word in reading.words:
        fates = {sign: reading.fate(word, sign) for sign in reading.signs}
        ends = {sign: states[fate[1]] if fate[0] == READ else stops[fate[0]] for sign, fate in fates.items()}
        roads = [(sign, ends[sign]) for sign in sorted(ends) if sign != OTHER]
        rows.append((reading.ends[word][0] in wanted, roads, ends[OTHER]))
    return Names(rows + [(what in wanted, [], stops[what]) for what in stops])


def coming_to(moves, goal):
    """Return the names whose chase, they themselves counted, comes to a name of a set."""
    return Names(Coming(_reading(moves), goal.rows()).rows())


def ending_in(moves, goal):
    """Return the names whose chase ends at a name of a set."""
    reading = _reading(moves)
    table = goal.rows()
    states = {word: state for state, word in enumerate(reading.words)}
    nowhere = len(states) + len(table)
    rows = []
    for word in reading.words:
        what, last, _ = reading.ends[word]
        roads, other = _roads_to_ends(reading, table, states, word)
        rows.append((what == ENDED and table[end_state(table, last)][0], roads, other))
    return Names(rows + [shifted(row, len(states)) for row in table] + [(False, [], nowhere)])


def _roads_to_ends(reading, table, states, word):
    """Return the roads and the other one from a word: to words, or to the states of the set, or nowhere behind all."""
    labels = {sign: True for sign in reading.signs if sign != OTHER}
    what, last, _ = reading.fate(word, OTHER)
    if what == ENDED:
        # Labels that no move has may have roads of their own in the set, behind what the chase ends with.
        labels.update(dict(table[end_state(table, last[1:])][1]))
    roads = [(label, _state_behind(reading, table, states, word, label)) for label in sorted(labels)]
    return (roads, _state_behind(reading, table, states, word, OTHER))


def _state_behind(reading, table, states, word, label):
    """Return the state behind a word and a label; no set has a road for OTHER."""
    what, last, _ = reading.fate(word, label)
    if what == READ:
        return states[last]
    if what == ENDED:
        return len(states) + end_state(table, last)
    return len(states) + len(table)


def first_endless(moves):
    """Return the first name whose chase never ends, None if there is none."""
    return first_of(endless(moves).rows())


def longest(moves):
    """Return the greatest number of steps of the chases that end, None if there is no greatest one."""
    return most_steps(_reading(moves))


def longest_name(moves):
    """Return the first name whose chase ends after the greatest number of steps, None if there is no greatest one."""
    reading = _reading(moves)
    if most_steps(reading) is None:
        return None
    return first_of(longest_rows(reading))


def first_apart(one, other):
    """Return the first name whose chases by two books of moves come to unlike ends, None if there is none."""
    return first_of(Pairing(_reading(one), _reading(other)).rows())


def needless_moves(moves):
    """Return the moves of which each one, taken out alone, leaves moves that lead all names to the same ends."""
    listed = moves.moves()
    return [move for move in listed if first_apart(moves, Moves([one for one in listed if one != move])) is None]
