"""Steps of resolvers at one moment: caches that ask one another, and the root at last."""

from rootward.entries import entry_of, life_under
from rootward.forestparts import MOST_NAMES


class Resolving:
    """The nodes of a world while one of them is asked, with twins of their caches."""

    def __init__(self, asker, resolvers, caches, moment):
        self._asker = asker
        self._rows = resolvers
        self._caches = {node: cache.twin() for node, cache in caches.items()}
        self._now = moment
        self._from_root = {}
        self._failed = {}

    def caches(self):
        """Return the caches as they are by now."""
        return dict(self._caches)

    def asked(self, node, name, kind):
        """Return how an ask of a node ends, and the names of its chase."""
        names, lefts = [name], []
        while True:
            self._failed = {}
            told = self._step(node, names[-1], kind, [])
            if told is None:
                return (("failed",), names)
            lefts.append(told[1])
            if told[0] != "alias":
                return ((told[0], min(lefts)) + told[2:], names)
            if len(names) == MOST_NAMES:
                return (("long",), names)
            names.append(told[2])

    def _step(self, node, name, kind, at):
        """Return what a node tells of a name and kind, None for nothing; at: the nodes that are at it already."""
        told = self._caches[node].look(self._now, name, kind)
        # A step that comes to nothing puts nothing in, so that it would come to nothing again.
        place = (node, tuple(sorted(at)))
        if told is not None or place in self._failed:
            return told
        policy, ups = self._rows[node]
        for up in ups:
            if up is None:
                told = self._told_by_root(name, kind)
            elif up not in at:
                told = self._step(up, name, kind, at + [node])
            if told is not None:
                self._caches[node].put(self._now, entry_of(name, kind, told), 0)
                return (told[0], life_under(policy, told[1])) + told[2:]
        self._failed[place] = True
        return None

    def _told_by_root(self, name, kind):
        """Return what an asking from the root comes to for one name, None for nothing; it is asked once."""
        question = (name, kind)
        if question not in self._from_root:
            told = self._asker.walked(name, kind, [name])
            if told[0] in ("failed", "broken"):
                told = None
            elif told[0] == "tree":
                told = ("alias", told[1], told[3])
            self._from_root[question] = told
        return self._from_root[question]
