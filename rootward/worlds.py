"""Worlds: a forest that changes, machines that stop, resolvers that keep what they were told, and one clock."""

from rootward.asking import Asker
from rootward.caches import Cache
from rootward.checks import check_asked_kind, check_count, check_node, check_plain_name, is_address
from rootward.errors import InvalidMachines, InvalidNet, InvalidZone, NoBlock, Nothing, OutOfZone, Unfit
from rootward.forests import Forest, check_forest, plain
from rootward.nets import are_resolvers
from rootward.values import renewed
from rootward.worldsteps import Resolving
from rootward.zones import Zone


class World:
    """A forest, its machines up, resolvers with their caches, a clock, and the deeds that can be taken back."""

    def __init__(self, forest, resolvers):
        check_forest(forest)
        if not are_resolvers(resolvers):
            raise InvalidNet(renewed(resolvers))
        self._first = forest
        self._rows = {node: (policy, tuple(ups)) for node, (policy, ups) in resolvers.items()}
        caches = {node: Cache(policy) for node, (policy, _) in resolvers.items()}
        # The forest, the machines up, the caches and the clock; what stands here is never changed itself.
        self._state = (forest, tuple(forest.machines), caches, 0)
        # The deeds, each with the state ahead of it, and for each block the number of the deeds ahead of it.
        self._past = []
        self._blocks = []

    def __len__(self):
        return len(self._past)

    def __eq__(self, other):
        if not isinstance(other, World):
            return False
        if self.clock != other.clock or self.up != other.up:
            return False
        return self.forest.zones == other.forest.zones and self.deeds == other.deeds

    @property
    def clock(self):
        """The moment now."""
        return self._state[3]

    @property
    def forest(self):
        """The forest as it is now."""
        return self._state[0]

    @property
    def up(self):
        """The machines that are up, ascending."""
        return list(self._state[1])

    @property
    def deeds(self):
        """The deeds that were done and not taken back."""
        return [deed for deed, _ in self._past]

    @property
    def depth(self):
        """The number of the blocks that are open."""
        return len(self._blocks)

    def wait(self, count):
        """Let so many seconds pass."""
        check_count(count)
        forest, up, caches, moment = self._state
        self._become(("wait", count), (forest, up, caches, moment + count))

    def change(self, zone):
        """Put a zone in the place of the one with its apex."""
        if not isinstance(zone, Zone):
            raise InvalidZone(renewed(zone))
        forest, up, caches, moment = self._state
        if not any([other.apex == zone.apex for other in forest.zones]):
            raise OutOfZone(zone.apex)
        zones = [zone if other.apex == zone.apex else other for other in forest.zones]
        serves = {machine: forest.serves(machine) for machine in forest.machines}
        self._become(("change", zone), (Forest(zones, serves, forest.roots), up, caches, moment))

    def stop(self, machine):
        """Let a machine that is up go down."""
        self._check_machine(machine)
        forest, up, caches, moment = self._state
        if machine not in up:
            raise Unfit(machine)
        left = tuple([other for other in up if other != machine])
        self._become(("stop", machine), (forest, left, caches, moment))

    def start_again(self, machine):
        """Let a machine that is down come up."""
        self._check_machine(machine)
        forest, up, caches, moment = self._state
        if machine in up:
            raise Unfit(machine)
        self._become(("start", machine), (forest, tuple(sorted(up + (machine,))), caches, moment))

    def ask(self, node, name, kind):
        """Ask a node for a name and kind; return how the chase ends, and its names."""
        check_node(self._rows, node)
        check_plain_name(name)
        check_asked_kind(kind)
        forest, up, caches, moment = self._state
        resolving = Resolving(Asker(forest, up), self._rows, caches, moment)
        told = resolving.asked(node, name, kind)
        self._become(("ask", node, name, kind), (forest, up, resolving.caches(), moment))
        return told

    def undo(self):
        """Take back the last deed, and return it."""
        if len(self._past) == (self._blocks[-1] if len(self._blocks) > 0 else 0):
            raise Nothing(None)
        deed, self._state = self._past.pop()
        return deed

    def begin(self):
        """Open a block."""
        self._blocks.append(len(self._past))

    def keep(self):
        """End the innermost block; its deeds stay."""
        self._check_block()
        self._blocks.pop()

    def drop(self):
        """Take back the deeds of the innermost block, and end it."""
        self._check_block()
        begun = self._blocks.pop()
        if begun < len(self._past):
            self._state = self._past[begun][1]
            del self._past[begun:]

    def twin(self):
        """Return a world with the same deeds, without blocks."""
        other = World(self._first, self.resolvers())
        other._state = self._state
        other._past = list(self._past)
        return other

    def held(self, node):
        """Return the living entries of the cache of a node, as caches tell them."""
        check_node(self._rows, node)
        return self._state[2][node].twin().living(self.clock)

    def plainly(self, name, kind):
        """Return the plain reading of a name and kind in the forest as it is now."""
        return plain(self.forest, name, kind)

    def resolvers(self):
        """Return the net of resolvers."""
        return {node: (policy, list(ups)) for node, (policy, ups) in self._rows.items()}

    def zones_told(self):
        """Return the zones at the beginning and those of all changes that stand."""
        return self._first.zones + [deed[1] for deed, _ in self._past if deed[0] == "change"]

    def _check_machine(self, machine):
        """Raise InvalidMachines if any object is no machine of the forest."""
        if not is_address(machine) or machine not in self.forest.machines:
            raise InvalidMachines(renewed(machine))

    def _check_block(self):
        if len(self._blocks) == 0:
            raise NoBlock(None)

    def _become(self, deed, state):
        self._past.append((deed, self._state))
        self._state = state
