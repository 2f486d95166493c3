"""Sets of names without `*`, each told by the least machine that reads names from their last labels on."""

from rootward.errors import InvalidLabel, InvalidNames, InvalidNumber
from rootward.labels import WILD, check_asked, is_label
from rootward.leastrows import least_rows
from rootward.rowtools import counts_of, end_state, first_of, paired, shifted, target
from rootward.values import is_between, rebuilt

IN_EITHER = ((True, True), (True, False), (False, True))
IN_BOTH = ((True, True),)
IN_FIRST = ((True, False),)
IN_ONE = ((True, False), (False, True))


class Names:
    """A set of names; its states are those of the least machine."""

    def __init__(self, rows):
        _check_rows(rows)
        self._table = least_rows(rows)

    def __len__(self):
        return len(self._table)

    def __eq__(self, other):
        return isinstance(other, Names) and self._table == other._table

    def rows(self):
        """Return the rows of the least machine."""
        return [(is_in, list(roads), other) for is_in, roads, other in self._table]

    def holds(self, name):
        """Return True if a name is in the set, otherwise False."""
        check_asked(name)
        return self._table[end_state(self._table, name)][0]


def _check_rows(rows):
    if not isinstance(rows, list) or len(rows) == 0:
        raise InvalidNames(0)
    for index, row in enumerate(rows):
        if not _is_row(row, len(rows)):
            raise InvalidNames(index)


def _is_row(value, states):
    if not isinstance(value, tuple) or len(value) != 3:
        return False
    is_in, roads, other = value
    if not isinstance(is_in, bool) or not isinstance(roads, list):
        return False
    if not all([_is_road(road, states) for road in roads]):
        return False
    labels = [label for label, _ in roads]
    return labels == sorted(set(labels)) and is_between(other, 0, states - 1)


def _is_road(value, states):
    if not isinstance(value, tuple) or len(value) != 2:
        return False
    label, state = value
    return is_label(label) and label != WILD and is_between(state, 0, states - 1)


def every():
    """Return all names."""
    return Names([(True, [], 0)])


def nobody():
    """Return the set without names."""
    return Names([(False, [], 0)])


def just(names):
    """Return the names of a list."""
    for name in names:
        check_asked(name)
    wanted = {name: True for name in names}
    parts = {(): 0}
    for name in wanted:
        for many in range(1, len(name) + 1):
            parts.setdefault(name[len(name) - many:], len(parts))
    roads = [[] for _ in parts]
    for part in parts:
        if part != ():
            roads[parts[part[1:]]].append((part[0], parts[part]))
    nowhere = len(parts)
    rows = [(part in wanted, sorted(roads[parts[part]]), nowhere) for part in parts]
    return Names(rows + [(False, [], nowhere)])


def below(name):
    """Return all names below a name."""
    return put_under(others(just([()])), name)


def under(name):
    """Return all names at or below a name."""
    return put_under(every(), name)


def join(one, other):
    """Return the names in one of two sets, or in both."""
    return Names(paired(one.rows(), other.rows(), IN_EITHER))


def meet(one, other):
    """Return the names in both of two sets."""
    return Names(paired(one.rows(), other.rows(), IN_BOTH))


def without(one, other):
    """Return the names in the first of two sets alone."""
    return Names(paired(one.rows(), other.rows(), IN_FIRST))


def others(names):
    """Return the names that are not in a set."""
    return Names([(not is_in, roads, other) for is_in, roads, other in names.rows()])


def put_under(names, name):
    """Return all names of a set with the labels of a name behind them."""
    check_asked(name)
    rows = [shifted(row, len(name)) for row in names.rows()]
    nowhere = len(name) + len(rows)
    way = [(False, [(label, step + 1)], nowhere) for step, label in enumerate(name[::-1])]
    return Names(way + rows + [(False, [], nowhere)])


def taken_from(names, name):
    """Return all names that are in a set with the labels of a name behind them."""
    check_asked(name)
    rows = [shifted(row, 1) for row in names.rows()]
    return Names([rows[end_state(names.rows(), name)]] + rows)


def with_label(names, label):
    """Return all names of a set with a label ahead."""
    if not is_label(label) or label == WILD:
        raise InvalidLabel(rebuilt(label))
    rows = []
    for row in names.rows():
        rows.append(_row_ahead(row, label, False))
        rows.append(_row_ahead(row, label, True))
    return Names(rows)


def _row_ahead(row, label, is_in):
    """Return a row of the machine for names with a label ahead.

    Each state stands there twice, the second time for names that have the label ahead of a name of the set."""
    is_whole, roads, other = row
    roads_ahead = {word: 2 * to for word, to in roads}
    if is_whole:
        roads_ahead[label] = 2 * target(row, label) + 1
    return (is_in, [(word, roads_ahead[word]) for word in sorted(roads_ahead)], 2 * other)


def first_in(names):
    """Return the first name of a set, None if it is empty."""
    return first_of(names.rows())


def first_apart(one, other):
    """Return the first name that just one of two sets holds, None if there is none."""
    return first_of(paired(one.rows(), other.rows(), IN_ONE))


def count(names, size):
    """Return the number of names of a size in a set."""
    if size < 0:
        raise InvalidNumber(size)
    return counts_of(names.rows(), size)[size]


def counts(names, most):
    """Return the numbers of names of all sizes from 0 to one in a set."""
    if most < 0:
        raise InvalidNumber(most)
    return counts_of(names.rows(), most)
