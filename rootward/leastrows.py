"""The least machine for some rows: which of its states are alike, and how they are numbered.

A row is a tuple (is in, roads, other) as namesets.py tells it. No row has roads for all labels, so two states are
alike exactly if their other roads lead to states that are alike, and so do their roads for each label.
"""


class Partition:
    """Classes of states, which are split until the states of each class are alike.

    Of a class that is split the largest part keeps the number. So a state gets a new number seldom, and only
    states with a road to one that got a new number are looked at again: of the other states of a class it is
    known that they still look alike."""

    def __init__(self, table):
        self.table = table
        self.homes = [1 if row[0] else 0 for row in table]
        self.members = [{}, {}]
        self.touched = [{}, {}]
        self.waiting = []
        self.feeders = feeders_of(table)
        for state, home in enumerate(self.homes):
            self.members[home][state] = True
            self.touch(state)

    def touch(self, state):
        """Note that a state has to be looked at again."""
        home = self.homes[state]
        if len(self.touched[home]) == 0:
            self.waiting.append(home)
        self.touched[home][state] = True

    def outlook(self, state):
        """Return what states of a class have to have in common: the classes to which their roads lead."""
        roads, other = self.table[state][1:]
        last = self.homes[other]
        return (last, tuple([(label, self.homes[to]) for label, to in roads if self.homes[to] != last]))

    def refine(self):
        """Split classes until there is nothing to split."""
        while len(self.waiting) > 0:
            home = self.waiting.pop()
            touched = self.touched[home]
            self.touched[home] = {}
            leaving = self.parts_leaving(home, touched)
            for part in leaving:
                self.move(part, home)
            for part in leaving:
                for state in part:
                    self.touch_feeders(state)

    def parts_leaving(self, home, touched):
        """Return the parts of a class, but the largest one."""
        parts = {}
        for state in touched:
            parts.setdefault(self.outlook(state), []).append(state)
        resting = len(self.members[home]) - len(touched)
        quiet = None
        if resting > 0:
            quiet = self.outlook(self.first_resting(home, touched))
            parts.setdefault(quiet, [])
        sizes = [(len(part) + (resting if key == quiet else 0), key) for key, part in parts.items()]
        _, keeping = max(sizes)
        # The states that were not touched are gone through only if more of those that were are in another part.
        if quiet is not None and quiet != keeping:
            parts[quiet].extend([state for state in self.members[home] if state not in touched])
        return [part for key, part in parts.items() if key != keeping]

    def first_resting(self, home, touched):
        """Return a state of a class that was not touched."""
        for state in self.members[home]:
            if state not in touched:
                return state
        return None

    def move(self, part, home):
        """Give a part of a class a number of its own."""
        number = len(self.members)
        self.members.append({})
        self.touched.append({})
        for state in part:
            del self.members[home][state]
            self.members[number][state] = True
            self.homes[state] = number

    def touch_feeders(self, state):
        """Note that the states with a road to a state have to be looked at again."""
        for feeder in self.feeders[state]:
            self.touch(feeder)


def feeders_of(table):
    """Return, for each state, the list of the states that have a road to it."""
    feeders = [{} for _ in table]
    for state, row in enumerate(table):
        feeders[row[2]][state] = True
        for _, to in row[1]:
            feeders[to][state] = True
    return [list(states) for states in feeders]


def least_rows(table):
    """Return the rows of the least machine for some rows, numbered as they are come to."""
    partition = Partition(table)
    partition.refine()
    return _numbered(table, partition.homes)


def _numbered(table, homes):
    numbers = {homes[0]: 0}
    found = [0]
    rows = []
    while len(rows) < len(found):
        is_in, roads, other = table[found[len(rows)]]
        kept = [(label, to) for label, to in roads if homes[to] != homes[other]]
        for to in [end for _, end in kept] + [other]:
            if homes[to] not in numbers:
                numbers[homes[to]] = len(found)
                found.append(to)
        rows.append((is_in, [(label, numbers[homes[to]]) for label, to in kept], numbers[homes[other]]))
    return rows
