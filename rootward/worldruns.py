"""Scripts of worlds: what their asks tell, in one world and in two, and what of it is stale."""

from rootward.chains import stale_ranks
from rootward.deeds import do_at
from rootward.errors import InvalidDeed


def played(world, script):
    """Return the tuple of a twin of a world behind the deeds of a script, and the list of the answers of its asks."""
    _check_script(script)
    twin = world.twin()
    told = [do_at(twin, script, index) for index in range(len(script))]
    return (twin, [answer for answer in told if answer is not None])


def same_answers(world, other_world, script):
    """Return whether the asks of a script have equal answers in two worlds."""
    _check_script(script)
    twin, other = world.twin(), other_world.twin()
    # Entry by entry, so that the first one that cannot be done in one of them is told.
    told = [(do_at(twin, script, index), do_at(other, script, index)) for index in range(len(script))]
    return all([one == another for one, another in told])


def first_stale(world, script):
    """Return the index of the first ask that is told other than the plain reading is at that moment, None without."""
    _check_script(script)
    twin = world.twin()
    stale = []
    for index, deed in enumerate(script):
        told = do_at(twin, script, index)
        if told is not None and _is_stale(told[0], twin.plainly(deed[2], deed[3])[0]):
            stale.append(index)
    return min(stale, default=None)


def _is_stale(outcome, plain_outcome):
    """Return whether an outcome has another word or other datas than that of the plain reading."""
    if outcome[0] in ("failed", "long"):
        return False
    return outcome[0] != plain_outcome[0] or outcome[2:] != plain_outcome[2:]


def age_limit(world):
    """Return a dict: to each node how old what it tells can be at most, None without a limit."""
    ages = [record[2] for zone in world.zones_told() for record in zone.records()]
    # In a net of caches the sequence of the ups says nothing, and None stands first.
    caches = {node: (policy, 0, sorted(ups, key=_up_place)) for node, (policy, ups) in world.resolvers().items()}
    return stale_ranks(caches, max(ages))


def _up_place(up):
    return "" if up is None else up


def _check_script(script):
    if not isinstance(script, list):
        raise InvalidDeed(0)
