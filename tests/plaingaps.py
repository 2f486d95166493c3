"""A second, slow reading of gaps, straight from the document and written apart from the program."""

from itertools import combinations

from tests import plainly


def behind(one, other):
    """Whether the first name is behind the other one, label by label from the last ones on."""
    for label, other_label in zip(one[::-1], other[::-1]):
        if label != other_label:
            return label > other_label
    return len(one) > len(other)


def gaps(apex, records):
    """The gaps of a zone with some records, in order."""
    names = []
    for name in plainly.names_of_zone(apex, records):
        at = 0
        while at < len(names) and behind(name, names[at]):
            at += 1
        names.insert(at, name)
    found = []
    for at, name in enumerate(names):
        kinds = sorted({record[1] for record in records if record[0] == name})
        found.append((name, names[at + 1] if at + 1 < len(names) else apex, tuple(kinds)))
    return found


def stands_over(gap, apex, name):
    start, end, kinds = gap
    if not plainly.under(name, apex) or not behind(name, start):
        return False
    if end != apex and not behind(end, name):
        return False
    if "tree" in kinds and plainly.beneath(name, start):
        return False
    return not ("server" in kinds and start != apex and plainly.beneath(name, start))


def in_common(one, other):
    found = ()
    for many in range(1, min(len(one), len(other)) + 1):
        if one[len(one) - many:] == other[len(other) - many:]:
            found = one[len(one) - many:]
    return found


def shown(apex, listed, name, kind):
    """The word that some gaps show, None without one."""
    words = set()
    for gap in listed:
        if gap[0] == name and kind not in gap[2] and "alias" not in gap[2]:
            if "server" not in gap[2] or name == apex:
                words.add("empty")
        if stands_over(gap, apex, name):
            nearest = max(in_common(name, gap[0]), in_common(name, gap[1]), key=len)
            wild = ("*",) + nearest
            for other in listed:
                if stands_over(other, apex, wild):
                    words.add("absent")
                if other[0] == wild and kind not in other[2] and "alias" not in other[2]:
                    words.add("empty")
    return "absent" if "absent" in words else "empty" if words else None


def shortest(apex, listed, names, kind, expected):
    """All shortest lists of gaps that show what is expected of some names."""
    for many in range(len(listed) + 1):
        found = []
        for some in combinations(listed, many):
            if all([shown(apex, some, name, kind) == word for name, word in zip(names, expected)]):
                found.append(list(some))
        if found:
            return found
    return []


def clash(apex, listed):
    for i in range(len(listed)):
        for j in range(i + 1, len(listed)):
            one, other = listed[i], listed[j]
            if one[0] == other[0] and one != other:
                return (i, j)
            for gap, ends in [(one, other), (other, one)]:
                if stands_over(gap, apex, ends[0]) or (ends[1] != apex and stands_over(gap, apex, ends[1])):
                    return (i, j)
    return None
