"""Which zones of a forest are reached with some machines up: ways to them, blocks, and prices."""

from rootward.checks import check_machines
from rootward.forestparts import chased, homes_of, parent_of, servers_of, zones_by_apex
from rootward.forests import check_apex, check_forest, check_question
from rootward.labels import is_asked
from rootward.nameparts import place
from rootward.steps import apexes_shown, shown_by, steps_to
from rootward.values import is_same


def ways_to_reach(forest, up):
    """Return to each apex the ways, as steps.py tells them, by which its zone is reached with some machines up.

    The parent stands twice among the needs if a server without glue hangs on it: then its price counts twice."""
    zones = zones_by_apex(forest)
    telling = {(machine, apex): True for machine in up for apex in forest.serves(machine)}
    ways = {apex: [] for apex in zones}
    ways[()] = [(("root", machine), []) for machine in forest.roots if (machine, ()) in telling]
    for apex in zones:
        for server, _, addresses, homes in servers_of(zones, apex):
            machines = [machine for machine in addresses if (machine, apex) in telling]
            needs = [parent_of(zones, apex)] + homes
            ways[apex].extend([(("zone", apex, server, machine), needs) for machine in machines])
    return ways


def _ways(forest, up):
    return ways_to_reach(forest, forest.machines if up is None else up)


def reached(forest, *, up=None):
    """Return the apexes of the zones that are reached, in the order of names."""
    check_forest(forest)
    check_machines(up)
    return _reached(_ways(forest, up))


def _reached(ways):
    found = shown_by(ways)
    return [apex for apex in ways if apex in found]


def findable(forest, name, kind, *, up=None):
    """Return whether all homes of the chase of a name are reached."""
    check_question(forest, name, kind)
    check_machines(up)
    zones = zones_by_apex(forest)
    found = shown_by(_ways(forest, up))
    return all([apex in found for apex in homes_of(zones, chased(zones, name, kind)[1])])


def way_to(forest, apex, *, up=None):
    """Return a way to a zone, None if it is not reached."""
    check_forest(forest)
    check_apex(forest, apex)
    check_machines(up)
    return steps_to(_ways(forest, up), apex)


def judge_way(forest, apex, value, *, up=None):
    """Return whether any object is a way to a zone."""
    check_forest(forest)
    check_apex(forest, apex)
    check_machines(up)
    shown = apexes_shown(_ways(forest, up), value)
    return shown is not None and shown[-1:] == [apex] and len({other: True for other in shown}) == len(shown)


def block_of(forest, apex, *, up=None):
    """Return a block that has a zone, None if it is reached."""
    check_forest(forest)
    check_apex(forest, apex)
    check_machines(up)
    ways = _ways(forest, up)
    found = shown_by(ways)
    return None if apex in found else [other for other in ways if other not in found]


def judge_block(forest, apex, value, *, up=None):
    """Return whether any object is a block that has a zone."""
    check_forest(forest)
    check_apex(forest, apex)
    check_machines(up)
    ways = _ways(forest, up)
    if not isinstance(value, list) or not all([is_asked(other) and other in ways for other in value]):
        return False
    if not all([place(one) < place(behind) for one, behind in zip(value, value[1:])]):
        return False
    return apex in value and all([_is_barred(ways[other], value) for other in value])


def _is_barred(ways, block):
    """Return whether each way to a zone needs one of a block."""
    return all([any([need in block for need in needs]) for _, needs in ways])


def prices(forest, *, up=None):
    """Return the tuples (apex, price) of the zones that are reached, in the order of names."""
    check_forest(forest)
    check_machines(up)
    return _prices(_ways(forest, up))


def _prices(ways):
    final = {}
    while True:
        offers = [(_price(needs, final), place(apex), apex) for apex in ways for _, needs in ways[apex]
                  if apex not in final and all([need in final for need in needs])]
        if len(offers) == 0:
            return [(apex, final[apex]) for apex in ways if apex in final]
        # No part is dearer than the whole, so the cheapest offer can't become cheaper by zones to come.
        price, _, apex = min(offers)
        final[apex] = price


def _price(needs, final):
    return 1 + sum([final[need] for need in needs])


def judge_prices(forest, value, *, up=None):
    """Return whether any object is the list of the prices."""
    check_forest(forest)
    check_machines(up)
    return is_same(value, _prices(_ways(forest, up)))
