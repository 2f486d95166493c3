"""A second, plain reading of caches, timelines and nets of them: questions one by one, moments one by one."""

from tests.plainly import under
from tests.samples import KINDS, small_names

QUESTIONS = [(name, kind) for name in small_names(["a", "b"], 3) for kind in KINDS]


def lasting(policy, age):
    """The life of an entry."""
    return 0 if age == 0 else min(policy[1], max(age, policy[0]))


def tells(entry, name, kind):
    """What an entry tells of a question but for its age, None if it answers it not."""
    word = entry[0]
    if word == "found":
        return (word, entry[4]) if (name, kind) == entry[1:3] else None
    if word == "empty":
        return (word,) if (name, kind) == entry[1:3] else None
    if word == "alias":
        return (word, entry[3]) if name == entry[1] and kind != "alias" else None
    return (word,) if under(name, entry[1]) else None


def questions_of(entry, questions=QUESTIONS):
    """The questions that an entry answers, of some, those with small names if no others are told."""
    return [question for question in questions if tells(entry, *question) is not None]


def do_clash(entry, other, questions=QUESTIONS):
    """Whether two entries with small names, or such as some questions have, clash."""
    both = [question for question in questions if tells(entry, *question) is not None and tells(other, *question) is not None]
    return any([tells(entry, *question) != tells(other, *question) for question in both])


class PlainCache:
    """A list of all entries, with what they were and when they came."""

    def __init__(self, policy):
        self.policy, self.now, self.rows, self.past = policy, 0, [], []

    def put(self, moment, entry, rank):
        self.now = moment
        life = lasting(self.policy, entry[3] if entry[0] in ("found", "empty") else entry[2])
        against = [row for row in self.alive() if do_clash(row[0], entry) or questions_of(row[0]) == questions_of(entry)]
        if life == 0 or any([row[1] > rank for row in against]):
            return False
        self.past.append(list(self.rows))
        self.rows = [row for row in self.rows if row not in against] + [(entry, rank, moment + life)]
        return True

    def look(self, moment, name, kind):
        self.now = moment
        found = [(row[2] - moment, tells(row[0], name, kind)) for row in self.alive() if tells(row[0], name, kind) is not None]
        if not found:
            return None
        assert len({told for _, told in found}) == 1
        left, told = max(found)
        return told[:1] + (left,) + told[1:]

    def alive(self):
        return [row for row in self.rows if self.now < row[2]]

    def living(self, moment):
        self.now = moment
        kinds = {"alias": "", "absent": " "}
        return sorted(self.alive(), key=lambda row: (row[0][1][::-1], kinds.get(row[0][0], row[0][2])))

    def drop(self, name):
        gone = [row for row in self.alive() if under(row[0][1], name)]
        if gone:
            self.past.append(list(self.rows))
            self.rows = [row for row in self.rows if row not in gone]
        return len(gone)

    def undo(self):
        self.rows = self.past.pop()


def force(timeline, moment):
    """The tuple in force at a moment."""
    return [row for row in timeline if row[0] <= moment][-1]


def stale_by(timeline, moment, value):
    """How long a value has not been in force, moment by moment; None if it never was."""
    moments = [when for when in range(moment + 1) if force(timeline, when)[2] == value]
    return moment - moments[-1] if moments else None


def random_timeline(chance, many=3, until=8, most_age=3):
    """A timeline that chance decides."""
    moments = [0] + sorted(chance.sample(range(1, until), chance.randrange(many + 1)))
    return [(moment, chance.randrange(most_age + 1), chance.choice(["a", "b", "c"])) for moment in moments]


def random_policy(chance, most=3):
    """A policy that chance decides."""
    floor = chance.choice([0, 0, 1, 2])
    return (floor, max(1, floor + chance.randrange(most)))


def random_net(chance, nodes, graces):
    """A net of caches that chance decides."""
    net = {}
    for node in nodes:
        ups = chance.sample([None] + [other for other in nodes if other != node], chance.randrange(1, len(nodes) + 1))
        net[node] = (random_policy(chance), chance.choice(graces), sorted(ups, key=lambda up: up or ""))
    return net


def ways_from(net, kept, ways):
    """All ways on which a question may go on, as tuples (ways, value, left): value is None for the source."""
    node = ways[-1]
    _, grace, ups = net[node]
    if kept[node] is not None and kept[node][1] > 0:
        return [(ways, kept[node][0], kept[node][1], False)]
    found = []
    if kept[node] is not None and (grace is None or -kept[node][1] < grace):
        found.append((ways, kept[node][0], 1, True))
    if None in ups:
        found.append((ways, None, None, False))
    for up in ups:
        if up is not None and up not in ways:
            found.extend(ways_from(net, kept, ways + [up]))
    return found


def steps_at(net, kept, age, is_old):
    """All steps at a moment, as tuples (node, value, what is kept behind it); kept: to nodes (value, left)."""
    found = []
    for node in net:
        for ways, value, left, _ in ways_from(net, kept, [node]):
            behind, asking = dict(kept), ways[:-1]
            if value is None:
                value, left, asking = is_old, age, ways
            for other in reversed(asking):
                left = lasting(net[other][0], left)
                if left > 0:
                    behind[other] = (value, left)
            found.append((node, value, behind))
    return found


def later(net, kept):
    """What is kept one moment later, without what is told never again."""
    behind = {}
    for node, entry in kept.items():
        grace = net[node][1]
        left = None if entry is None else entry[1] - 1
        gone = entry is None or (grace is not None and left <= 0 and -left >= grace)
        behind[node] = None if gone else (entry[0], left if grace is not None else max(left, 0))
    return behind


def stalest(net, age, horizon):
    """To each node the greatest staleness of an old value up to a moment, over all runs: all that may be kept, moment by
    moment."""
    best = {node: 0 for node in net}
    for changed in (1, 2):
        states = {tuple([(node, None) for node in net])}
        for moment in range(horizon):
            todo = list(states)
            while todo:
                for node, is_old, behind in steps_at(net, dict(todo.pop()), age, moment < changed):
                    if is_old and moment >= changed:
                        best[node] = max(best[node], moment - changed + 1)
                    if tuple(behind.items()) not in states:
                        states.add(tuple(behind.items()))
                        todo.append(tuple(behind.items()))
            states = {tuple(later(net, dict(state)).items()) for state in states}
    return best
