"""Machines as rows: two read at once, the first name, and numbers of names."""

from heapq import heappop, heappush

from rootward.labels import LONGEST, label_but, labels_of


def end_state(table, name):
    """Return the state of a machine behind a name, read from its last label on."""
    state = 0
    for label in name[::-1]:
        state = target(table[state], label)
    return state


def target(row, label):
    """Return the state to which a row leads by a label."""
    return dict(row[1]).get(label, row[2])


def shifted(row, steps):
    """Return a row with the numbers of its states raised."""
    is_in, roads, other = row
    return (is_in, [(label, to + steps) for label, to in roads], other + steps)


def paired(table, other_table, wanted):
    """Return the rows of a machine that reads two at once.

    A name is in if the tuple of whether it is in the one and in the other is one of those that are wanted."""
    return [(told in wanted, roads, other) for told, roads, other in paired_told(table, other_table)]


def paired_told(table, other_table):
    """Return the rows of a machine that reads two at once, each with the tuple of what the two rows tell first."""
    def look(pair):
        return _paired_row(table[pair[0]], other_table[pair[1]])
    return explored((0, 0), look)


def _paired_row(row, other_row):
    roads, other_roads = dict(row[1]), dict(other_row[1])
    labels = sorted({**roads, **other_roads})
    pairs = [(label, (roads.get(label, row[2]), other_roads.get(label, other_row[2]))) for label in labels]
    return ((row[0], other_row[0]), pairs, (row[2], other_row[2]))


def explored(start, look):
    """Return the rows of the machine of all states that are come to from one.

    To look at a state gives its row, in which all states are told as themselves."""
    numbers = {start: 0}
    states = [start]
    rows = []
    while len(rows) < len(states):
        told, roads, other = look(states[len(rows)])
        for state in [end for _, end in roads] + [other]:
            if state not in numbers:
                numbers[state] = len(states)
                states.append(state)
        rows.append((told, [(label, numbers[end]) for label, end in roads], numbers[other]))
    return rows


def first_of(table):
    """Return the first name that a machine holds, None if there is none."""
    sizes = _least_sizes(table)
    if sizes[0] is None:
        return None
    labels = []
    state = 0
    while sizes[state] > 0:
        label, state = _first_step(table[state], sizes, sizes[state])
        labels.append(label)
    return tuple(labels[::-1])


def _first_step(row, sizes, room):
    """Return the first label, as texts, that leads on to a name of the least size, and the state behind it."""
    other = _first_other(row)
    steps = row[1] + [(other, row[2])]
    return min([(label, to) for label, to in steps if _fits(len(label), sizes[to], room)])


def _first_other(row):
    """Return the first label without a road of its own: no shorter one has none, and of its length it is the first."""
    return label_but(dict(row[1]))


def _fits(length, size, room):
    return size is not None and length + 1 + size == room


def _least_sizes(table):
    """Return, for each state, the least size of labels that lead to a name that is in, None without any."""
    feeders = _feeders_with_sizes(table)
    sizes = [None for _ in table]
    queue = [(0, state) for state, row in enumerate(table) if row[0]]
    while len(queue) > 0:
        size, state = heappop(queue)
        if sizes[state] is None:
            sizes[state] = size
            for feeder, step in feeders[state]:
                heappush(queue, (size + step, feeder))
    return sizes


def _feeders_with_sizes(table):
    """Return, for each state, the states with a road to it, with the least sizes of the labels of these roads."""
    feeders = [[] for _ in table]
    for state, row in enumerate(table):
        for label, to in row[1] + [(_first_other(row), row[2])]:
            feeders[to].append((state, len(label) + 1))
    return feeders


def counts_of(table, most):
    """Return the numbers of names of each size, from 0 to one, that a machine holds."""
    many = [labels_of(length) for length in range(LONGEST + 1)]
    others = sorted(set([row[2] for row in table]))
    ways = [[1 if row[0] else 0 for row in table]]
    for room in range(1, most):
        free = {other: _free_ways(ways, many, other, room) for other in others}
        ways.append([_listed_ways(ways, row, room, free[row[2]]) for row in table])
    return ([0] + [step[0] for step in ways])[:most + 1]


def _free_ways(ways, many, other, room):
    """Return the number of names of a room that begin with any label and go on from a state."""
    lengths = range(1, min(LONGEST, room - 1) + 1)
    return sum([many[length] * ways[room - length - 1][other] for length in lengths])


def _listed_ways(ways, row, room, free):
    """Return the number of names of a room, the roads of a row being taken in place of the other one."""
    number = free
    for label, to in row[1]:
        if len(label) < room:
            step = ways[room - len(label) - 1]
            number = number + step[to] - step[row[2]]
    return number
