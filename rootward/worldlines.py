"""Lines of texts of forests, resolvers and deeds, taken in one behind the other."""

from rootward.checks import is_address, is_node, is_policy
from rootward.errors import TreeError
from rootward.labels import is_asked
from rootward.nameparts import place
from rootward.records import is_kind
from rootward.textparts import DIGITS, read_full_name
from rootward.zonereads import read_zone

# More digits than any number has that is worth a text; Python itself refuses to read very many.
MOST_DIGITS = 4000


def read_count(text):
    """Return the integer from 0 on that a text is, None if it is none or has leading zeros."""
    if not 1 <= len(text) <= MOST_DIGITS or text.strip(DIGITS) != "" or (text[0] == "0" and len(text) > 1):
        return None
    return int(text)


def read_apex(text):
    """Return the name without `*` that a text is, None if it is none."""
    name = read_full_name(text)
    return name if is_asked(name) else None


def read_addresses(words):
    """Return the addresses that some words are, None in the place of each one that is none."""
    counts = [read_count(word) for word in words]
    return [count if is_address(count) else None for count in counts]


def read_deed(line):
    """Return the deed, no change, that a line is, None if it is none."""
    words = line.split(" ")
    if len(words) == 4 and words[0] == "ask":
        name = read_apex(words[2])
        is_right = is_node(words[1]) and name is not None and is_kind(words[3])
        return ("ask", words[1], name, words[3]) if is_right else None
    if len(words) != 2 or words[0] not in ("wait", "stop", "start"):
        return None
    count = read_count(words[1])
    return (words[0], count) if count is not None and (words[0] == "wait" or is_address(count)) else None


class Block:
    """The lines of a zone, each with two blanks ahead of it, behind a line that announces it."""

    def __init__(self, at, apex):
        self.at = at
        self._apex = apex
        self._zone_text = []

    def take(self, line):
        """Take in a line; return whether it is one of a zone."""
        if line[:2] == "  ":
            self._zone_text.append(line[2:] + "\n")
        return line[:2] == "  "

    def zone(self):
        """Return the zone of the lines, None if they are no text of a zone, or of one with another apex."""
        try:
            zone = read_zone("".join(self._zone_text))
        except TreeError:
            return None
        return zone if self._apex is None or zone.apex == self._apex else None


class ForestLines:
    """What the lines of a text of a forest have told so far."""

    def __init__(self):
        self.told_zones = []
        self.told_serves = {}
        self.told_roots = []
        self._block = None

    def take(self, at, line):
        """Take in a line with its number; return the number of the one that cannot stand there, None if all can."""
        if self._block is not None and self._block.take(line):
            return None
        words = line.split(" ")
        if self._block is not None:
            fault = self._close()
            if fault is not None:
                return fault
        if words[0] == "zone" and len(words) == 2:
            return None if self._begins(at, read_apex(words[1])) else at
        if words[0] == "serves" and len(words) >= 2:
            return None if self._take_serves(words[1:]) else at
        return None if words[0] == "roots" and self._take_roots(read_addresses(words[1:])) else at

    def is_whole(self):
        """Return whether the last line of a forest has come."""
        return len(self.told_roots) > 0

    def lacking(self, ended):
        """Return the number of the line that cannot stand there as no more come, None if all are there."""
        if self._block is not None and self._block.zone() is None:
            return self._block.at
        return None if self.is_whole() else ended

    def _close(self):
        """End the lines of a zone; return the number of the line that announced it if they are none of such a zone."""
        zone = self._block.zone()
        if zone is None:
            return self._block.at
        self.told_zones.append(zone)
        self._block = None
        return None

    def _begins(self, at, apex):
        """Return whether a zone with an apex can come next."""
        if apex is None or len(self.told_serves) > 0:
            return False
        # The root is ahead of all others, and no forest is without it.
        is_next = place(apex) > place(self.told_zones[-1].apex) if len(self.told_zones) > 0 else apex == ()
        if is_next:
            self._block = Block(at, apex)
        return is_next

    def _take_serves(self, words):
        machine = read_addresses(words[:1])[0]
        apexes = [read_apex(word) for word in words[1:]]
        if len(self.told_zones) == 0 or self.is_whole() or machine is None:
            return False
        if any([other >= machine for other in self.told_serves]):
            return False
        if not all([any([zone.apex == apex for zone in self.told_zones]) for apex in apexes]):
            return False
        self.told_serves[machine] = apexes
        return all([place(apex) < place(behind) for apex, behind in zip(apexes, apexes[1:])])

    def _take_roots(self, machines):
        if self.is_whole() or len(machines) == 0 or not all([machine in self.told_serves for machine in machines]):
            return False
        self.told_roots = machines
        return all([machine < behind for machine, behind in zip(machines, machines[1:])])


class ResolverLines:
    """What the lines of a text of resolvers have told so far."""

    def __init__(self):
        self.told_nodes = {}

    def take(self, at, line):
        """Take in a line with its number; return the number of the one that cannot stand there, None if all can."""
        return None if self._take_node(line.split(" ")) else at

    def lacking(self, ended):
        """Return the number of the line that cannot stand there as no more come, None if all are there."""
        ups = [up for _, row in self.told_nodes.values() for up in row if up is not None]
        is_whole = len(self.told_nodes) > 0 and all([up in self.told_nodes for up in ups])
        return None if is_whole else ended

    def _take_node(self, words):
        if words[0] != "node" or len(words) < 5 or not is_node(words[1]):
            return False
        node, ups = words[1], [None if word == "-" else word for word in words[4:]]
        policy = (read_count(words[2]), read_count(words[3]))
        if any([other >= node for other in self.told_nodes]) or not is_policy(policy):
            return False
        self.told_nodes[node] = (policy, ups)
        if not all([up is None or (is_node(up) and up != node) for up in ups]):
            return False
        return len({up: True for up in ups}) == len(ups)


class DeedLines:
    """What the lines of a text of deeds have told so far."""

    def __init__(self):
        self.told_deeds = []
        self._block = None

    def take(self, at, line):
        """Take in a line with its number; return the number of the one that cannot stand there, None if all can."""
        if self._block is not None and self._block.take(line):
            return None
        fault = self.lacking(at)
        if fault is not None:
            return fault
        if line == "change":
            self._block = Block(at, None)
            return None
        deed = read_deed(line)
        self.told_deeds.append(deed)
        return at if deed is None else None

    def lacking(self, _):
        """End the lines of a zone; return the number of the change ahead of them if they are none of a zone."""
        if self._block is None:
            return None
        zone = self._block.zone()
        if zone is None:
            return self._block.at
        self.told_deeds.append(("change", zone))
        self._block = None
        return None
