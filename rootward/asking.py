"""An asker that knows the roots alone, and goes from zone to zone along the cuts."""

from rootward.answers import answer
from rootward.checks import check_machines
from rootward.forestparts import MOST_NAMES, zones_by_apex
from rootward.forests import check_question


def ask(forest, name, kind, *, up=None):
    """Return how an asking for a name and kind ends, and the list of its questions."""
    check_question(forest, name, kind)
    check_machines(up)
    asker = Asker(forest, forest.machines if up is None else up)
    outcome = asker.asked(name, kind, [name])
    return (outcome, asker.log)


class Asker:
    """One who asks the machines of a forest of which some are up, and notes each question."""

    def __init__(self, forest, up):
        self.log = []
        self._zones = zones_by_apex(forest)
        self._roots = forest.roots
        self._telling = {(machine, apex): True for machine in up for apex in forest.serves(machine)}
        self._answers = {}

    def asked(self, name, kind, begun):
        """Return how an asking ends; begun: the names with which all askings were begun that have not ended."""
        ages = []
        for _ in range(MOST_NAMES):
            told = self.walked(name, kind, begun)
            if told[0] in ("failed", "broken"):
                return told
            ages.append(told[1])
            if told[0] not in ("alias", "tree"):
                return (told[0], min(ages)) + told[2:]
            name = told[-1]
        return ("long",)

    def walked(self, name, kind, begun):
        """Return what is told of a name behind all cuts on the way from the root."""
        apex = ()
        machine = self._first_telling(self._roots, apex)
        while machine is not None:
            self.log.append((machine, apex, name, kind))
            told = self._answer(apex, name, kind)
            if told[0] != "cut":
                return told
            apex = told[2]
            if apex not in self._zones:
                return ("broken", apex)
            machine = self._machine_at(told, begun)
        return ("failed", apex)

    def _answer(self, apex, name, kind):
        """Return what a zone answers, which is worked out once, as long askings ask the same again and again."""
        question = (apex, name, kind)
        if question not in self._answers:
            self._answers[question] = answer(self._zones[apex], name, kind)
        return self._answers[question]

    def _first_telling(self, machines, apex):
        """Return the first of some machines that is up and serves a zone, None if there is none."""
        telling = [machine for machine in machines if (machine, apex) in self._telling]
        return telling[0] if len(telling) > 0 else None

    def _machine_at(self, cut, begun):
        """Return the machine that answers for the zone at a cut, None if there is none."""
        _, _, apex, servers, glue = cut
        machine = self._first_telling([address for _, _, datas in glue for address in datas], apex)
        if machine is not None:
            return machine
        glued = [server for server, _, _ in glue]
        for server in servers:
            if server not in glued and server not in begun:
                outcome = self.asked(server, "addr", begun + [server])
                machine = self._first_telling(outcome[2] if outcome[0] == "found" else (), apex)
                if machine is not None:
                    return machine
        return None
