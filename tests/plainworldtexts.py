"""A second, plain reading of texts of forests, resolvers and deeds: patterns for lines, and blocks of lines cut out whole."""

import re

from rootward.zonereads import read_zone

NUMBER = "(?:0|[1-9][0-9]*)"
LABEL = "[a-z0-9](?:[a-z0-9-]{0,18}[a-z0-9])?"
NAME = r"(?:\.|(?:%s\.)+)" % LABEL
NODE = "[a-z]{1,8}"
KIND = "(?:addr|alias|back|mail|server|start|text|tree)"
ZONE = re.compile("zone (%s)" % NAME)
SERVES = re.compile("serves (%s)((?: %s)*)" % (NUMBER, NAME))
ROOTS = re.compile("roots((?: %s)+)" % NUMBER)
RESOLVER = re.compile("node (%s) (%s) (%s)((?: (?:-|%s))+)" % (NODE, NUMBER, NUMBER, NODE))
DEED = re.compile("(wait) (%s)|(stop|start) (%s)|(ask) (%s) (%s) (%s)" % (NUMBER, NUMBER, NODE, NAME, KIND))
MOST = 2 ** 32 - 1


def name_in(text):
    return tuple(text[:-1].split(".")) if text != "." else ()


class Bad(Exception):
    """The number of a line that cannot stand where it does."""


def lines_of(text):
    """The lines of a text, and the number of those with an end."""
    lines = text.split("\n")
    ended = len(lines) - 1
    return (lines if lines[-1] else lines[:-1]), ended


def finished(text, at, ended):
    """Behind all else the last line has to have its end."""
    if not text.endswith("\n") and text != "":
        raise Bad(ended)
    return at


def block(lines, at, apex):
    """The zone of the lines with two blanks behind a line, and the number of the line behind them."""
    end = at + 1
    while end < len(lines) and lines[end].startswith("  "):
        end += 1
    try:
        zone = read_zone("".join([line[2:] + "\n" for line in lines[at + 1:end]]))
    except ValueError:
        raise Bad(at)
    if apex is not None and zone.apex != apex:
        raise Bad(at)
    return zone, end


def forest_of(lines, ended, at=0):
    """The zones, what is served, the roots, and the number of the line behind them."""
    zones, served = [], {}
    while at < len(lines):
        zone, serves, roots = [pattern.fullmatch(lines[at]) for pattern in (ZONE, SERVES, ROOTS)]
        if zone and not served:
            apex = name_in(zone[1])
            if (apex != ()) if not zones else not zones[-1].apex[::-1] < apex[::-1]:
                raise Bad(at)
            found, at = block(lines, at, apex)
            zones.append(found)
        elif serves and zones:
            machine, apexes = int(serves[1]), [name_in(word) for word in serves[2].split()]
            ordered = sorted(set(apexes), key=lambda name: name[::-1])
            if machine > MOST or (served and machine <= max(served)) or apexes != ordered or not set(apexes) <= {zone.apex for zone in zones}:
                raise Bad(at)
            served[machine] = apexes
            at += 1
        elif roots:
            machines = [int(word) for word in roots[1].split()]
            if machines != sorted(set(machines)) or not set(machines) <= set(served):
                raise Bad(at)
            return zones, served, machines, at + 1
        else:
            raise Bad(at)
    raise Bad(ended)


def resolvers_of(lines, ended, at=0):
    """The net of the lines from one on, which are all."""
    found, wanted = {}, set()
    for number in range(at, len(lines)):
        row = RESOLVER.fullmatch(lines[number])
        if not row:
            raise Bad(number)
        floor, ceiling, ups = int(row[2]), int(row[3]), row[4].split()
        if (found and row[1] <= max(found)) or floor > ceiling or ceiling < 1 or len(set(ups)) < len(ups) or row[1] in ups:
            raise Bad(number)
        found[row[1]] = ((floor, ceiling), [None if up == "-" else up for up in ups])
        wanted |= set(ups) - {"-"}
    if not found or not wanted <= set(found):
        raise Bad(ended)
    return found


def deeds_of(lines):
    """The deeds of all lines."""
    found, at = [], 0
    while at < len(lines):
        row = DEED.fullmatch(lines[at])
        if lines[at] == "change":
            zone, at = block(lines, at, None)
            found.append(("change", zone))
            continue
        if not row or (row[3] and int(row[4]) > MOST):
            raise Bad(at)
        found.append(("wait", int(row[2])) if row[1] else (row[3], int(row[4])) if row[3] else ("ask", row[6], name_in(row[7]), row[8]))
        at += 1
    return found


def read(what, text):
    """What a text of a forest (its parts), of resolvers, of deeds, or of a load says; or the number of the bad line."""
    lines, ended = lines_of(text)
    try:
        if what == "deeds":
            told = deeds_of(lines)
        elif what == "resolvers":
            told = resolvers_of(lines, ended)
        else:
            told, behind = forest_of(lines, ended)[:3], forest_of(lines, ended)[3]
            if what == "load":
                told = (told, resolvers_of(lines, ended, behind))
            elif behind < len(lines):
                raise Bad(behind)
        return finished(text, told, ended)
    except Bad as bad:
        return bad.args[0]
