"""A second, slow way to the shortest text of a zone: all texts of the form, line by line."""

from rootward.labels import show_name


def ways_to_write(name, origin):
    """All ways to write a name behind an origin."""
    found = [show_name(name)]
    if name == origin:
        found.append("@")
    if len(name) > len(origin) and name[len(name) - len(origin):] == origin:
        found.append(".".join(name[:len(name) - len(origin)]))
    return found


def ways_to_tell(kind, data, origin):
    """All ways to write data behind an origin."""
    if kind in ("alias", "back", "server", "tree"):
        return ways_to_write(data, origin)
    if kind == "mail":
        return [f"{data[0]} {text}" for text in ways_to_write(data[1], origin)]
    if kind == "start":
        return [" ".join([text] + [str(number) for number in data[1:]]) for text in ways_to_write(data[0], origin)]
    if kind == "text":
        return ['"' + "".join(["\\" + sign if sign in '"\\' else sign for sign in data]) + '"']
    return [str(data)]


def all_origins(zone):
    """All names that may be of use as origins."""
    names = [zone.apex]
    for name, kind, _, data in zone.records():
        names.append(name)
        if kind in ("alias", "back", "server", "tree"):
            names.append(data)
        if kind in ("mail", "start"):
            names.append(data[1] if kind == "mail" else data[0])
    found = {name[cut:] for name in names for cut in range(len(name) + 1)}
    return sorted([name for name in found if name[:1] != ("*",)])


def record_lines(records, at, origin, age):
    """All lines of a record behind an origin and an age."""
    name, kind, own, data = records[at]
    owners = ways_to_write(name, origin) + ([""] if at > 0 and records[at - 1][0] == name else [])
    ages = [f"{own} "] + ([""] if age == own else [])
    return [f"{owner} {told}{kind} {text}\n" for owner in owners for told in ages for text in ways_to_tell(kind, data, origin)]


def shortest(zone):
    """The shortest text and the first of these, by all lines that may stand ahead of each record, up to one of each sort."""
    records, origins = zone.records(), all_origins(zone)
    ages = sorted({record[2] for record in records})
    known = {}

    def better(texts):
        return min(texts, key=lambda text: (len(text), text))

    def best(at, origin, age):
        """The best text from a record on, lines ahead of it included."""
        if at == len(records):
            return ""
        if (at, origin, age) not in known:
            found = [without(at, origin, age)]
            for new_age in ages:
                line = f"age {new_age}\n"
                found.append(line + without(at, origin, new_age))
                for new in origins:
                    for text in ways_to_write(new, origin):
                        found.append(line + f"origin {text}\n" + without(at, new, new_age))
                        found.append(f"origin {text}\n" + line + without(at, new, new_age))
            for new in origins:
                for text in ways_to_write(new, origin):
                    found.append(f"origin {text}\n" + without(at, new, age))
            known[at, origin, age] = better(found)
        return known[at, origin, age]

    def without(at, origin, age):
        """The best text from a record on without any lines ahead of it."""
        if (at, origin, age, "own") not in known:
            rest = best(at + 1, origin, age)
            known[at, origin, age, "own"] = better([line + rest for line in record_lines(records, at, origin, age)])
        return known[at, origin, age, "own"]

    return f"zone {show_name(zone.apex)}\n" + best(0, zone.apex, None)
