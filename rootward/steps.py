"""What can be shown of zones step by step.

Ways are a dict: to each apex the list of the tuples (step, needs) by which it can be shown: a step, and the list of
the apexes that have to be shown ahead of it."""

from rootward.values import is_same


def shown_by(ways):
    """Return a dict: to each apex that can be shown the way by which it first is, in this sequence."""
    found = {}
    many = -1
    while len(found) > many:
        many = len(found)
        for apex in ways:
            right = [way for way in ways[apex] if _are_shown(way[1], found)]
            if apex not in found and len(right) > 0:
                found[apex] = right[0]
    return found


def _are_shown(needs, found):
    return all([apex in found for apex in needs])


def steps_to(ways, apex):
    """Return a list of steps that shows an apex at last, with no step too many, None if it can't be shown."""
    found = shown_by(ways)
    if apex not in found:
        return None
    needed = {apex: True}
    for other in list(found)[::-1]:
        if other in needed:
            needed.update({need: True for need in found[other][1]})
    return [step for other, (step, _) in found.items() if other in needed]


def apexes_shown(ways, value):
    """Return the list of the apexes that any object shows step by step, None if it is no list of right steps."""
    if not isinstance(value, list):
        return None
    shown = []
    for step in value:
        found = [apex for apex in ways for way, needs in ways[apex] if is_same(step, way) and _are_shown(needs, shown)]
        if len(found) == 0:
            return None
        shown.append(found[0])
    return shown
