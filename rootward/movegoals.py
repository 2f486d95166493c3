"""Which names come to a name of a set by some moves.

Of the names of a chase that have the same labels left to be read, the set's machine is in some states. A state here is
a tuple (word, goals): the word that is read and not moved yet (movereads.py), None if nothing is moved any more, and
the states, ascending, in which the set's machine is behind the names that came so far."""

from rootward.movereads import OTHER, READ
from rootward.rowtools import explored

# Behind it all names come to the set; its number is below those of all states.
SURE = -1


class Coming:
    """The names that come to a set, told by the rows of its least machine."""

    def __init__(self, reading, table):
        self.reading = reading
        self.table = table
        self.targets = [dict(row[1]) for row in table]
        # What the goals are behind the names that come while a word and a label are read anew.
        self.passed = {}
        for group in reading.groups:
            self.pass_group(group)
        self.arrived = {}
        self.find_arrived()

    def goals_at(self, goals):
        """Return some goals ascending, without those that lead nowhere; only SURE if all names are in behind one."""
        kept = {}
        for goal in goals:
            if goal == SURE or self.table[goal] == (True, [], goal):
                return (SURE,)
            if self.table[goal] != (False, [], goal):
                kept[goal] = True
        return tuple(sorted(kept))

    def goals_behind(self, goals, label):
        """Return the goals behind a label that is read; None stands for labels without a road of their own."""
        if label == OTHER:
            return goals
        found = [goal if goal == SURE else self.targets[goal].get(label, self.table[goal][2]) for goal in goals]
        return self.goals_at(found)

    def start(self):
        """Return the state ahead of a name."""
        return ((), self.goals_at([0]))

    def behind(self, state, label):
        """Return the state behind a label."""
        word, goals = state
        found = self.goals_behind(goals, label)
        if word is None:
            return (None, found)
        what, read, _ = self.reading.fate(word, label)
        sign = self.reading.sign(label)
        more = self.passed.get((word, sign), ())
        if sign == OTHER:
            more = self.goals_behind(more, label)
        return (read if what == READ else None, self.goals_at(found + more))

    def through(self, labels):
        """Return the state behind some labels, the last one read first."""
        state = self.start()
        for label in labels[::-1]:
            state = self.behind(state, label)
        return state

    def pass_group(self, keys):
        """Find the goals for words and labels that hang on one another."""
        changed = True
        while changed:
            changed = False
            for key in keys[::-1]:
                _, goals = self.through(self.reading.anew(key[0], key[1]))
                if goals != self.passed.get(key, ()):
                    self.passed[key] = goals
                    changed = True

    def find_arrived(self):
        """Find the words of which, as whole names, it is known that a name of the set comes behind them."""
        changed = True
        while changed:
            changed = False
            for word in self.reading.words:
                name = self.reading.book.moved(word)
                if word not in self.arrived and name is not None and self.is_in(self.through(name)):
                    self.arrived[word] = True
                    changed = True

    def is_in(self, state):
        """Return whether a name that ends its reading in a state comes to the set."""
        word, goals = state
        return word in self.arrived or any([goal == SURE or self.table[goal][0] for goal in goals])

    def labels_at(self, state):
        """Return the labels, ascending, that lead elsewhere than all others."""
        word, goals = state
        labels = {}
        if word is not None:
            labels = {sign: True for sign in self.reading.signs if sign != OTHER}
            goals = goals + self.passed.get((word, OTHER), ())
        for goal in goals:
            if goal != SURE:
                labels.update(self.targets[goal])
        return sorted(labels)

    def look(self, state):
        """Return the row of a state, with states told as themselves."""
        roads = [(label, self.behind(state, label)) for label in self.labels_at(state)]
        return (self.is_in(state), roads, self.behind(state, None))

    def rows(self):
        """Return the rows of a machine for the names that come to the set."""
        return explored(self.start(), self.look)
