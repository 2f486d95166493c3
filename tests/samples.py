"""Objects of all kinds, names, records and zones that several tests use."""

import random
from itertools import product

from rootward.labels import name_of, show_name
from rootward.zones import Zone


class Stranger:
    """An object that is nothing that the package knows."""

    def __deepcopy__(self, memory):
        return self


def nested(make, depth):
    """Return an object in which so many others lie within one another."""
    value = make()
    for _ in range(depth - 1):
        value = make([value])
    return value


# None of these is a label, a name, a kind, a record, or data of any kind.
NOTHING_AT_ALL = [
    None, True, False, -1, 2 ** 32, -10 ** 59, [], {}, {"a": 1}, {("a",): []}, [("a",)], ["a"], ["a", "net"], [[]],
    (1,), (None,), (True,), ("",), ("a", ""), (("a",),), ("a", ["b"]), ("a", ("b",)), ("a", 1), ("a", None),
    ("A",), ("-a",), ("a-",), ("a.b",), ("a", "*"), ("*", "*"), ("a", "b", "*"), ("x" * 21,), ("a b",),
    ("a", {}), ({},), ([],), ([], []), (1, 2), (1, 2, 3, 4), ("a", "addr", 5), ["a", "addr", 5, 6],
    b"a", (b"a",), nested(list, 100), nested(tuple, 100), (nested(list, 99), "a"), Stranger(), "\n", "\x7f",
    "a" * 61, "50%",
]

NAMES = [name_of(text) for text in [
    ".", "a.", "b.a.", "c.b.a.", "ab.", "0.", "z.", "a-b.", "a.a.", "a.ab.", "net.", "www.net.",
    "*.net.", "*.", "w.www.net.", "www.shop.net.", "shop.net."]]

KINDS = ["addr", "alias", "back", "mail", "server", "start", "text", "tree"]

DATA = {
    "addr": [0, 7, 2 ** 32 - 1], "alias": [(), ("a",), ("b", "a")], "back": [("a",), ("a", "b")],
    "mail": [(0, ("z",)), (10, ("a",)), (10, ("b",)), (65535, ())], "server": [("n", "a"), ("m", "b")],
    "start": [(("n",), 1, 2, 3, 4, 50), (("n",), 1, 2, 3, 5, 0)], "text": ["", " ", "hi", "~"],
    "tree": [("a",), ("0", "b")],
}


def start_at(apex, age=60, serial=1, absent=50):
    """Return a start record."""
    return (apex, "start", age, (("n",), serial, 2, 3, 4, absent))


def zone_with(apex, records, **more):
    """Return a zone with a start, a server, and some records."""
    return Zone(apex, [start_at(apex, **more), (apex, "server", 60, ("n",))] + records)


def shop_zone():
    """Return a zone in which there is some of everything."""
    return zone_with(("net",), [
        (("www", "net"), "addr", 300, 20), (("www", "net"), "addr", 300, 21), (("www", "net"), "text", 30, "hi"),
        (("a", "deep", "net"), "addr", 10, 1), (("*", "net"), "addr", 40, 99), (("*", "net"), "mail", 41, (5, ("m",))),
        (("web", "net"), "alias", 20, ("www", "net")), (("*", "al", "net"), "alias", 15, ("www", "net")),
        (("lab", "net"), "server", 70, ("ns", "lab", "net")), (("lab", "net"), "server", 70, ("ns", "org")),
        (("lab", "net"), "server", 70, ("n2", "net")), (("lab", "net"), "addr", 9, 8),
        (("ns", "lab", "net"), "addr", 71, 30), (("ns", "lab", "net"), "addr", 71, 29),
        (("other", "lab", "net"), "addr", 71, 31), (("old", "net"), "tree", 25, ("www", "org")),
        (("old", "net"), "addr", 26, 5), (("moved", "net"), "tree", 27, ("net",)),
    ])


def small_names(labels, depth):
    """Return all names of up to so many labels of some."""
    return [name for many in range(depth + 1) for name in product(labels, repeat=many)]


def random_zone(seed):
    """Return a zone with records that a number decides."""
    chance = random.Random(seed)
    apex = chance.choice([(), ("a",)])
    labels = ["a", "b", "c"]
    names = [name + apex for name in small_names(labels, 3)] + [("*",) + name + apex for name in small_names(labels, 2)]
    zone = zone_with(apex, [], serial=seed, absent=chance.randrange(100))
    for _ in range(chance.randrange(20)):
        name = chance.choice(names)
        kind = chance.choice(["addr", "addr", "alias", "alias", "server", "tree", "tree", "text", "mail"])
        try:
            zone = zone.with_records([(name, kind, 7, random_data(chance, kind, names))])
        except ValueError:
            pass
    return zone


def random_data(chance, kind, names):
    """Return data of a kind that chance decides."""
    target = chance.choice([name for name in names if name[:1] != ("*",)] + [("a", "z"), ("z",), ("a", "a", "a", "a")])
    if kind == "addr":
        return chance.randrange(3)
    if kind == "text":
        return chance.choice(["x", "y"])
    return (chance.randrange(2), target) if kind == "mail" else target


def shown(names):
    """Return the texts of some names."""
    return [show_name(name) for name in names]
