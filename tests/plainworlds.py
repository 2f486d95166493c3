"""A second, plain reading of worlds: each deed on lists of all there is, copied ahead of it."""

import copy

from rootward.forests import Forest
from tests.plaincaches import do_clash, lasting, tells
from tests.plainforests import Plain
from tests.samples import KINDS


class PlainWorld:
    """What there is: zones, machines up, entries as (entry, until) for each node, the clock."""

    def __init__(self, forest, resolvers):
        self.resolvers, self.roots = resolvers, forest.roots
        self.served = {machine: forest.serves(machine) for machine in forest.machines}
        self.now = {"zones": {zone.apex: zone for zone in forest.zones}, "up": forest.machines, "held": {node: [] for node in resolvers}, "clock": 0}
        self.past = []

    def forest(self):
        return Forest(list(self.now["zones"].values()), self.served, self.roots)

    def did(self, deed):
        """Keep what is there now behind a deed."""
        now = self.now
        self.past.append((deed, now))
        self.now = {"zones": dict(now["zones"]), "up": list(now["up"]), "held": copy.deepcopy(now["held"]), "clock": now["clock"]}

    def wait(self, count):
        self.did(("wait", count))
        self.now["clock"] += count

    def change(self, zone):
        self.did(("change", zone))
        self.now["zones"][zone.apex] = zone

    def stop(self, machine):
        self.did(("stop", machine))
        self.now["up"].remove(machine)

    def start_again(self, machine):
        self.did(("start", machine))
        self.now["up"] = sorted(self.now["up"] + [machine])

    def undo(self):
        deed, self.now = self.past.pop()
        return deed

    def ask(self, node, name, kind):
        self.did(("ask", node, name, kind))
        plain, names, lefts = Plain(self.forest()), [name], []
        for _ in range(25):
            told = self.step(plain, node, names[-1], kind, [])
            if told is None:
                return ("failed",), names
            lefts.append(told[1])
            if told[0] != "alias":
                return (told[0], min(lefts)) + told[2:], names
            names.append(told[2])
        return ("long",), names[:25]

    def step(self, plain, node, name, kind, at):
        """What a node tells, None for nothing."""
        clock, policy = self.now["clock"], self.resolvers[node][0]
        found = [(until - clock, tells(entry, name, kind)) for entry, until in self.now["held"][node] if until > clock and tells(entry, name, kind) is not None]
        if found:
            left, told = max(found)
            return told[:1] + (left,) + told[1:]
        for up in self.resolvers[node][1]:
            told = None
            if up is None:
                told = self.from_root(plain, name, kind)
            elif up not in at + [node]:
                told = self.step(plain, up, name, kind, at + [node])
            if told is not None:
                entry = {"found": ("found", name, kind, told[1], told[-1]), "alias": ("alias", name, told[1], told[-1]), "empty": ("empty", name, kind, told[1]),
                         "absent": ("absent", name, told[1])}[told[0]]
                self.put(node, entry, lasting(policy, told[1]))
                return told[:1] + (lasting(policy, told[1]),) + told[2:]
        return None

    def from_root(self, plain, name, kind):
        told = plain.from_root(name, kind, self.now["up"], (name,), [])
        if told[0] in ("failed", "broken"):
            return None
        return ("alias", told[1], told[-1]) if told[0] == "tree" else told

    def put(self, node, entry, life):
        if life > 0:
            clock = self.now["clock"]
            rows = [row for row in self.now["held"][node] if row[1] > clock and not self.goes(row[0], entry)]
            self.now["held"][node] = rows + [(entry, clock + life)]

    def goes(self, old, new):
        """Whether an entry goes as a new one comes in."""
        questions = [(name, kind) for name in [old[1], new[1]] for kind in KINDS]
        scopes = [(entry[1], ("kind", entry[2]) if entry[0] in ("found", "empty") else entry[0]) for entry in (old, new)]
        return do_clash(old, new, questions) or scopes[0] == scopes[1]

    def held(self, node):
        """The living entries, in no order."""
        return [(entry, 0, until) for entry, until in self.now["held"][node] if until > self.now["clock"]]
