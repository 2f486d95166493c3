"""Texts of zones: the plain one, and the shortest one."""

from rootward.shorttexts import shortest_lines
from rootward.textparts import full_data, full_name


def show_zone(zone):
    """Return the text of a zone with owner and age in each line, and full names."""
    lines = [f"zone {full_name(zone.apex)}\n"]
    for name, kind, age, data in zone.records():
        lines.append(f"{full_name(name)} {age} {kind} {full_data(kind, data)}\n")
    return "".join(lines)


def shortest_text(zone):
    """Return the shortest text that is read back to a zone, of several the first as texts compare."""
    return "".join(shortest_lines(zone))


def shortest_size(zone):
    """Return the number of signs of the shortest text of a zone."""
    return len(shortest_text(zone))
