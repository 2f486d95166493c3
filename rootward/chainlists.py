"""Lists of nodes of a net of caches, from one that asks the source on, along which what is told becomes stale."""

from rootward.nets import led_to, shortest_list
from rootward.stale import bound_of


def first_of(row, age):
    """Return how stale a node that asks the source may tell, None without a bound; row: its policy, grace and ups."""
    return bound_of(age, row[0], row[1])


def more_of(row):
    """Return how much staler a node may tell than the one that it asks, None without a bound."""
    return bound_of(1, row[0], row[1])


class Lists:
    """The lists of a net for an age, and how stale what is told along them becomes."""

    def __init__(self, caches, age):
        self._ups = {node: row[2] for node, row in caches.items()}
        # What has the age 0 is never kept, so neither graces nor floors count for it.
        self._grace = {node: row[1] if age > 0 else 0 for node, row in caches.items()}
        self._first = {node: first_of(row, age) for node, row in caches.items()}
        self._more = {node: more_of(row) if age > 0 else 0 for node, row in caches.items()}
        self._is_fresh = age == 0
        self._leading = led_to(self._ups)
        self._stalest = {}

    def greatest(self, node):
        """Return how stale the node may tell: 0 without a list, None without a greatest one."""
        if not self.is_fed(node):
            return 0
        return None if self.is_endless(node) else self._best(self._ring(node))[0]

    def stalest_list(self, node):
        """Return a list of nodes to this one along which the greatest comes about."""
        if self._is_fresh:
            return shortest_list(self._ups, [other for other in self._ups if None in self._ups[other]], node)
        ring = self._ring(node)
        _, ahead, entry = self._best(ring)
        begin = [] if ahead is None else self.stalest_list(ahead)
        tops = [other for other in ring if self._more[other] > 0]
        if len(tops) == 0:
            return begin + self._path(ring, entry, node)
        return begin + self._path(ring, entry, tops[0]) + self._path(ring, tops[0], node)[1:]

    def moments(self, nodes):
        """Return for each node of a list the moment at which the next one asks it, if the first one asks at 0."""
        found = [self._first[nodes[0]]]
        for node in nodes[1:]:
            found.append(found[-1] + self._more[node])
        return found

    def is_fed(self, node):
        """Return whether some list from the source leads to a node."""
        return any([None in self._ups[other] for other in self._leading[node] + [node]])

    def is_endless(self, node):
        """Return whether there is no greatest staleness, as rings renew old answers or a grace has no end."""
        on = [other for other in self._ups if (other == node or other in self._leading[node]) and self.is_fed(other)]
        if any([self._grace[other] is None for other in on]):
            return True
        return any([self._renew(one, other) for one in on for other in self._ring(one) if one != other])

    def _renew(self, one, other):
        """Return whether two nodes that lead to one another keep what they tell alive without end."""
        return self._grace[one] > 0 or (self._more[one] > 0 and self._more[other] > 0)

    def _ring(self, node):
        """Return a node and all that it leads to and that lead to it, in the sequence of the net."""
        return [other for other in self._ups
                if other == node or (other in self._leading[node] and node in self._leading[other])]

    def _best(self, ring):
        """Return the greatest staleness in a ring, the node ahead of it on the list, None without, and the entry."""
        if ring[0] not in self._stalest:
            self._stalest[ring[0]] = max([self._through(ring, entry, up) for entry in ring for up in self._ups[entry]
                                          if up not in ring and (up is None or self.is_fed(up))], key=_staleness)
        return self._stalest[ring[0]]

    def _through(self, ring, entry, up):
        """Return what comes about on a list that comes into a ring from an up of a node."""
        others = sum([self._more[other] for other in ring if other != entry])
        if up is None:
            return (self._first[entry] + others, None, entry)
        return (self._best(self._ring(up))[0] + self._more[entry] + others, up, entry)

    def _path(self, ring, begin, node):
        """Return a shortest list from one node of a ring to another one."""
        return shortest_list({other: [up for up in self._ups[other] if up in ring] for other in ring}, [begin], node)


def _staleness(row):
    return row[0]
