"""The shortest text of a zone: ahead of which records to change the origin and the age.

What the lines from a record on take hangs on the origin and on the age ahead of them, but on each by itself. So the
least numbers of signs are found from the last record on, and then the text is written line by line: of all lines with
which a shortest text can go on the first one is taken."""

from rootward.labels import WILD
from rootward.nameparts import weight
from rootward.records import names_in
from rootward.textparts import full_name, short_data, short_name

# The signs of an origin line beside its name, and of an age line beside its number, line feeds counted.
ORIGIN_LINE = 8
AGE_LINE = 5


def shortest_lines(zone):
    """Return the lines of the shortest text of a zone, of several the first, each with its line feed."""
    records = zone.records()
    origins, ages = Origins(zone.apex, records), Ages(records)
    lines = [f"zone {full_name(zone.apex)}\n"]
    origin, age, at = zone.apex, None, 0
    while at < len(records):
        ways = [(line, origin, new_age, at) for line, new_age in ages.changes(at, age)]
        ways.extend([(line, new_origin, age, at) for line, new_origin in origins.changes(at, origin)])
        if ages.may_stay(at, age) and origins.may_stay(at, origin):
            ways.append((_line_for(records, at, origin, age), origin, age, at + 1))
        line, origin, age, at = min(ways, key=_line_of)
        lines.append(line)
    return lines


def _line_of(way):
    return way[0]


def _has_owner(records, at):
    """Return whether the owner of a record has to be written: the record ahead has another one."""
    return at == 0 or records[at - 1][0] != records[at][0]


def _line_for(records, at, origin, age):
    """Return the shortest line of a record behind an origin and an age."""
    owner, own_age, kind, data = records[at][0], records[at][2], records[at][1], records[at][3]
    words = [short_name(owner, origin) if _has_owner(records, at) else ""]
    if own_age != age:
        words.append(str(own_age))
    return " ".join(words + [kind, short_data(kind, data, origin)]) + "\n"


class Origins:
    """What the names of some records take, from each record on, behind each origin."""

    def __init__(self, apex, records):
        written = [_names_written(records, at) for at in range(len(records))]
        ends = [end for names in [[apex]] + written for name in names for end in _origins_above(name)]
        self._all = sorted({end: True for end in ends}, key=len)
        self._place = {origin: at for at, origin in enumerate(self._all)}
        self._sizes = [weight(origin) for origin in self._all]
        # The least costs behind each origin: from each record on, and those if no origin line stands ahead of it.
        self._costs = [[0 for _ in self._all]]
        self._staying = []
        for names in written[::-1]:
            self._staying.append(self._costs_staying(names, self._costs[-1]))
            self._costs.append(self._costs_with_line(self._staying[-1]))
        self._costs = self._costs[::-1]
        self._staying = self._staying[::-1]

    def _costs_staying(self, names, behind):
        """Return what a record's names and all behind them take behind each origin, without an origin line ahead."""
        full = sum([len(full_name(name)) for name in names])
        costs = [full + cost for cost in behind]
        for name in names:
            for origin in _origins_above(name):
                costs[self._place[origin]] += len(short_name(name, origin)) - len(full_name(name))
        return costs

    def _costs_with_line(self, staying):
        """Return the least costs behind each origin, with an origin line ahead where that is shorter."""
        full = ORIGIN_LINE + min([len(full_name(origin)) + staying[at] for at, origin in enumerate(self._all)])
        # An origin is written behind one above it without the labels of that one, and without its last dot.
        least = [size + cost for size, cost in zip(self._sizes, staying)]
        costs = [min(cost, full) for cost in staying]
        for at in reversed(range(1, len(self._all))):
            above = self._place[self._all[at][1:]]
            costs[above] = min(costs[above], ORIGIN_LINE + least[at] - self._sizes[above] - 1)
            least[above] = min(least[above], least[at])
        return costs

    def may_stay(self, at, origin):
        """Return whether a shortest text can go on with a record without an origin line ahead of it."""
        place = self._place[origin]
        return self._costs[at][place] == self._staying[at][place]

    def changes(self, at, origin):
        """Return the origin lines, with their origins, by which a shortest text can go on ahead of a record."""
        costs = self._costs[at]
        room = costs[self._place[origin]] - ORIGIN_LINE
        ways = [(short_name(other, origin), other) for place, other in enumerate(self._all) if costs[place] < room]
        return [(f"origin {text}\n", other) for text, other in ways if len(text) + costs[self._place[other]] == room]


def _names_written(records, at):
    """Return the names that are written in the line of a record."""
    owners = [records[at][0]] if _has_owner(records, at) else []
    return owners + names_in(records[at])


def _origins_above(name):
    """Return the names without `*` that a name is at or below."""
    return [name[steps:] for steps in range(len(name) + 1) if name[steps:steps + 1] != (WILD,)]


class Ages:
    """What the ages of some records take, from each record on, behind each last age."""

    def __init__(self, records):
        self._own = [record[2] for record in records]
        self._costs = [{age: 0 for age in [None] + self._own}]
        for own in self._own[::-1]:
            self._costs.append(_age_costs(own, self._costs[-1]))
        self._costs = self._costs[::-1]

    def may_stay(self, at, age):
        """Return whether a shortest text can go on with a record without an age line ahead of it."""
        return self._costs[at][age] == _age_taken(self._own[at], age) + self._costs[at + 1][age]

    def changes(self, at, age):
        """Return the age lines, with their ages, by which a shortest text can go on ahead of a record."""
        costs = self._costs[at]
        ways = [(f"age {other}\n", other) for other in costs if other is not None]
        return [(line, other) for line, other in ways if len(line) + costs[other] == costs[age]]


def _age_taken(own, age):
    """Return how many signs the age of a record takes behind an age line."""
    return 0 if own == age else len(str(own)) + 1


def _age_costs(own, behind):
    """Return the least costs behind each last age from a record with an age on."""
    staying = {age: _age_taken(own, age) + cost for age, cost in behind.items()}
    full = AGE_LINE + min([len(str(age)) + cost for age, cost in staying.items() if age is not None])
    return {age: min(cost, full) for age, cost in staying.items()}
