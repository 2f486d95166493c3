"""A desk at which a world is loaded and asked by lines of text."""

from rootward.checks import check_node, is_node
from rootward.deeds import do
from rootward.errors import InvalidCommand, NotReady
from rootward.failures import stopping
from rootward.reach import block_of, reached
from rootward.records import is_kind
from rootward.textparts import full_data, full_name
from rootward.values import renewed
from rootward.worldlines import ForestLines, ResolverLines, read_apex, read_deed
from rootward.worldreads import forest_told, take_lines
from rootward.worldruns import age_limit
from rootward.worlds import World
from rootward.worldtexts import deed_line

ALONE = ("undo", "reached", "clock")
WITH_APEX = ("block", "stop_sets")


class Desk:
    """A desk with a world, if one was loaded."""

    def __init__(self):
        self._world = None

    def execute(self, line):
        """Do what a line tells, and return the line that answers it."""
        command = _command(line)
        if command is None:
            raise InvalidCommand(renewed(line))
        if command[0] == "load":
            self._world = _loaded(command[1])
            return "ok"
        if self._world is None:
            raise NotReady(None)
        return _answered(self._world, command)


def _command(line):
    """Return the tuple of the word of a command and what follows it, None for any object that is none."""
    if not isinstance(line, str):
        return None
    word, feed, text = line.partition("\n")
    if feed != "":
        return (word, text) if word == "load" else None
    words = line.split(" ")
    if len(words) == 1:
        return (words[0],) if words[0] in ALONE else None
    if words[0] in WITH_APEX and len(words) == 2:
        apex = read_apex(words[1])
        return None if apex is None else (words[0], apex)
    if words[0] == "limit" and len(words) == 2:
        return (words[0], words[1]) if is_node(words[1]) else None
    if words[0] == "plain" and len(words) == 3:
        name = read_apex(words[1])
        return (words[0], name, words[2]) if name is not None and is_kind(words[2]) else None
    return read_deed(line)


class LoadLines:
    """What the lines of a text of a forest and of one of resolvers behind it have told so far."""

    def __init__(self):
        self.forest_lines = ForestLines()
        self.resolver_lines = ResolverLines()

    def take(self, at, line):
        """Take in a line with its number; return the number of the one that cannot stand there, None if all can."""
        return self._lines().take(at, line)

    def lacking(self, ended):
        """Return the number of the line that cannot stand there as no more come, None if all are there."""
        return self._lines().lacking(ended)

    def _lines(self):
        return self.resolver_lines if self.forest_lines.is_whole() else self.forest_lines


def _loaded(text):
    """Return the world of a text of a forest and one of resolvers."""
    lines = LoadLines()
    take_lines(text, lines)
    return World(forest_told(lines.forest_lines), lines.resolver_lines.told_nodes)


def _answered(world, command):
    """Return the line that answers a command but load."""
    if command[0] == "undo":
        return deed_line(world.undo())
    if command[0] == "clock":
        return str(world.clock)
    if command[0] == "reached":
        return _names_line(reached(world.forest, up=world.up))
    if command[0] == "block":
        block = block_of(world.forest, command[1], up=world.up)
        return "-" if block is None else _names_line(block)
    if command[0] == "stop_sets":
        sets = stopping(world.forest, command[1])
        return " ".join([str(number) for number in [len(sets)] + sets[0]])
    if command[0] == "limit":
        limits = age_limit(world)
        check_node(limits, command[1])
        return "none" if limits[command[1]] is None else str(limits[command[1]])
    if command[0] == "plain":
        return _outcome_line(world.plainly(command[1], command[2])[0], command[2])
    told = do(world, command)
    return "ok" if told is None else _outcome_line(told[0], command[3])


def _names_line(names):
    return " ".join([full_name(name) for name in names])


def _outcome_line(outcome, kind):
    """Return the word of an outcome, and for found what is left and the data."""
    if outcome[0] != "found":
        return outcome[0]
    return " ".join(["found", str(outcome[1])] + [full_data(kind, data) for data in outcome[2]])
