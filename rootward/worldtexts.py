"""Forests, resolvers and deeds as texts."""

from rootward.deeds import is_deed
from rootward.errors import InvalidDeed, InvalidNet
from rootward.forests import check_forest
from rootward.nets import are_resolvers
from rootward.textparts import full_name
from rootward.values import renewed
from rootward.zonetexts import show_zone


def show_forest(forest):
    """Return the text of a forest."""
    check_forest(forest)
    lines = []
    for zone in forest.zones:
        lines.extend([f"zone {full_name(zone.apex)}"] + _zone_lines(zone))
    for machine in forest.machines:
        lines.append(" ".join(["serves", str(machine)] + [full_name(apex) for apex in forest.serves(machine)]))
    lines.append(" ".join(["roots"] + [str(machine) for machine in forest.roots]))
    return _text(lines)


def show_resolvers(resolvers):
    """Return the text of a net of resolvers."""
    if not are_resolvers(resolvers):
        raise InvalidNet(renewed(resolvers))
    lines = []
    for node in sorted(resolvers):
        (floor, ceiling), ups = resolvers[node]
        lines.append(" ".join([f"node {node} {floor} {ceiling}"] + ["-" if up is None else up for up in ups]))
    return _text(lines)


def show_deeds(deeds):
    """Return the text of some deeds."""
    if not isinstance(deeds, list):
        raise InvalidDeed(0)
    for index, deed in enumerate(deeds):
        if not is_deed(deed):
            raise InvalidDeed(index)
    return _text([line for deed in deeds for line in _deed_lines(deed)])


def _deed_lines(deed):
    """Return the lines of a deed: one, but for a change."""
    if deed[0] == "change":
        return ["change"] + _zone_lines(deed[1])
    return [deed_line(deed)]


def deed_line(deed):
    """Return the line of a deed that is no change."""
    if deed[0] == "ask":
        return f"ask {deed[1]} {full_name(deed[2])} {deed[3]}"
    return f"{deed[0]} {deed[1]}"


def _zone_lines(zone):
    """Return the lines of the text of a zone, each with two blanks ahead."""
    return ["  " + line for line in show_zone(zone).split("\n")[:-1]]


def _text(lines):
    return "".join([line + "\n" for line in lines])
