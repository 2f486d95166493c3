"""Forests, resolvers and deeds out of texts."""

from rootward.errors import InvalidText
from rootward.forests import Forest
from rootward.worldlines import DeedLines, ForestLines, ResolverLines


def read_forest(text):
    """Return the forest of a text."""
    lines = ForestLines()
    take_lines(text, lines)
    return forest_told(lines)


def read_resolvers(text):
    """Return the net of resolvers of a text."""
    lines = ResolverLines()
    take_lines(text, lines)
    return lines.told_nodes


def read_deeds(text):
    """Return the deeds of a text."""
    lines = DeedLines()
    take_lines(text, lines)
    return lines.told_deeds


def forest_told(lines):
    """Return the forest that all lines of a text have told."""
    return Forest(lines.told_zones, lines.told_serves, lines.told_roots)


def take_lines(text, taking):
    """Let all lines of a text be taken in, or raise InvalidText for the first that cannot stand there."""
    if not isinstance(text, str):
        raise InvalidText(0)
    lines = text.split("\n")
    ended = len(lines) - 1
    # What stands behind the last line feed is a line, too, but for its end; if nothing does, it is none.
    for at, line in enumerate(lines if lines[-1] != "" else lines[:-1]):
        fault = taking.take(at, line)
        if fault is not None:
            raise InvalidText(fault)
    fault = taking.lacking(ended)
    if fault is not None or lines[-1] != "":
        raise InvalidText(ended if fault is None else fault)
