"""A second, slow reading of forests, straight from the document and written apart from the program."""

from tests import plainly
from tests.plainly import under


class Plain:
    """A forest, told by its zones, what its machines serve, and its roots."""

    def __init__(self, forest):
        self.records = {zone.apex: zone.records() for zone in forest.zones}
        self.served = {machine: forest.serves(machine) for machine in forest.machines}
        self.roots = forest.roots
        self.told = {}

    def answer(self, apex, name, kind):
        if (apex, name, kind) not in self.told:
            self.told[apex, name, kind] = plainly.answer(apex, self.records[apex], name, kind)
        return self.told[apex, name, kind]

    def home(self, name):
        return max([apex for apex in self.records if under(name, apex)], key=len)

    def parent(self, apex):
        return max([other for other in self.records if under(apex, other) and other != apex], key=len, default=None)

    def chase(self, name, kind):
        names, least = [name], 2 ** 40
        for _ in range(25):
            told = self.answer(self.home(names[-1]), names[-1], kind)
            if told[0] == "cut":
                return ("broken", told[2]), names
            least = min(least, told[1])
            if told[0] == "found":
                return ("found", least, told[2]), names
            if told[0] in ("empty", "absent"):
                return (told[0], least), names
            names.append(told[-1])
        return ("long",), names[:25]

    def homes(self, name, kind):
        return {self.home(one) for one in self.chase(name, kind)[1]}

    def cut(self, apex):
        """The servers and the glue that the parent of a zone tells, None without a cut."""
        told = self.answer(self.parent(apex), apex, "text")
        if told[0] != "cut" or told[2] != apex:
            return None
        return told[3], {server: datas for server, _, datas in told[4]}

    def known(self, apex):
        """Tuples (server, has glue, addresses) of a zone that is not the root."""
        cut = self.cut(apex)
        if cut is None:
            return []
        found = []
        for server in cut[0]:
            if server in cut[1]:
                found.append((server, True, cut[1][server]))
            else:
                outcome = self.chase(server, "addr")[0]
                found.append((server, False, outcome[2] if outcome[0] == "found" else ()))
        return found

    def tells(self, machine, apex, up):
        return machine in up and apex in self.served.get(machine, [])

    def is_reached(self, apex, ahead, up):
        """Whether a zone is reached if just some others are."""
        if apex == ():
            return any([self.tells(machine, (), up) for machine in self.roots])
        if self.parent(apex) not in ahead:
            return False
        return any([self.tells(machine, apex, up) and (has_glue or self.homes(server, "addr") <= set(ahead))
                    for server, has_glue, addresses in self.known(apex) for machine in addresses])

    def reached(self, up):
        found = set()
        while True:
            more = {apex for apex in self.records if self.is_reached(apex, found, up)} | found
            if more == found:
                return found
            found = more

    def is_right_step(self, step, ahead, up):
        if step[0] == "root":
            return step[1] in self.roots and self.tells(step[1], (), up)
        _, apex, server, machine = step
        if apex == () or apex not in self.records or self.parent(apex) not in ahead:
            return False
        return any([server == one and machine in addresses and self.tells(machine, apex, up) and
                    (has_glue or self.homes(server, "addr") <= set(ahead)) for one, has_glue, addresses in self.known(apex)])

    def is_block(self, block, up):
        for apex in block:
            if apex == ():
                if any([self.tells(machine, (), up) for machine in self.roots]):
                    return False
            elif self.parent(apex) not in block:
                for server, has_glue, addresses in self.known(apex):
                    is_barred = not has_glue and self.homes(server, "addr") & set(block)
                    if any([self.tells(machine, apex, up) for machine in addresses]) and not is_barred:
                        return False
        return True

    def prices(self, up):
        """The prices by going round from no zone to all, each the least that is known, until nothing changes."""
        found = {}
        while True:
            more = dict(found)
            for apex in self.records:
                offers = [1] if apex == () and self.is_reached((), [], up) else []
                if apex != () and self.parent(apex) in found:
                    for server, has_glue, addresses in self.known(apex):
                        needed = [] if has_glue else list(self.homes(server, "addr"))
                        if any([self.tells(machine, apex, up) for machine in addresses]) and all([home in found for home in needed]):
                            offers.append(found[self.parent(apex)] + 1 + sum([found[home] for home in needed]))
                if offers:
                    more[apex] = min(offers)
            if more == found:
                return found
            found = more

    def takeable(self, bad):
        found = set()
        while True:
            more = {apex for apex in self.records if self.is_taken(apex, found, bad)} | found
            if more == found:
                return found
            found = more

    def is_taken(self, apex, ahead, bad):
        if apex == ():
            return any([machine in bad for machine in self.roots])
        if self.parent(apex) in ahead:
            return True
        return any([set(addresses) & set(bad) or (not has_glue and self.homes(server, "addr") & set(ahead))
                    for server, has_glue, addresses in self.known(apex)])

    def ask(self, name, kind, up, begun=(), log=None):
        """The outcome of an asking and its log."""
        log = [] if log is None else log
        begun = begun + (name,)
        least = 2 ** 40
        for _ in range(25):
            told = self.from_root(name, kind, up, begun, log)
            if told[0] in ("failed", "broken"):
                return told, log
            least = min(least, told[1])
            if told[0] == "found":
                return ("found", least, told[2]), log
            if told[0] in ("empty", "absent"):
                return (told[0], least), log
            name = told[-1]
        return ("long",), log

    def from_root(self, name, kind, up, begun, log):
        apex, machines = (), iter(self.roots)
        while True:
            machine = next((one for one in machines if self.tells(one, apex, up)), None)
            if machine is None:
                return ("failed", apex)
            log.append((machine, apex, name, kind))
            told = self.answer(apex, name, kind)
            if told[0] != "cut":
                return told
            if told[2] not in self.records:
                return ("broken", told[2])
            apex, machines = told[2], self.machines_of(told, up, begun, log)

    def machines_of(self, told, up, begun, log):
        for _, _, datas in told[4]:
            yield from datas
        for server in told[3]:
            if server not in [row[0] for row in told[4]] and server not in begun:
                outcome = self.ask(server, "addr", up, begun, log)[0]
                if outcome[0] == "found":
                    yield from outcome[2]


def faults(forest):
    """The faults of a forest, one after the other."""
    plain = Plain(forest)
    found = []
    order = sorted(plain.records, key=lambda name: name[::-1])
    for apex in order:
        if apex == ():
            continue
        cut = plain.cut(apex)
        if cut is None:
            found.append(("no cut", apex))
            continue
        if list(cut[0]) != [data for name, kind, _, data in plain.records[apex] if (name, kind) == (apex, "server")]:
            found.append(("servers", apex))
        for server, has_glue, addresses in plain.known(apex):
            if under(server, apex) and not has_glue:
                found.append(("glue lacking", apex, server))
            outcome = plain.chase(server, "addr")[0]
            if has_glue and not (outcome[0] == "found" and outcome[2] == addresses):
                found.append(("glue", apex, server))
            for machine in addresses:
                if apex not in plain.served.get(machine, []):
                    found.append(("lame", apex, server, machine))
    for apex in order:
        cuts = {name for name, kind, _, _ in plain.records[apex] if kind == "server" and name != apex}
        found.extend([("no zone", apex, cut) for cut in sorted(cuts, key=lambda name: name[::-1]) if cut not in plain.records])
    return found
