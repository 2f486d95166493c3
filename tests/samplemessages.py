"""Messages that several tests use."""

import random

NET, WWW, WILD = ("net",), ("www", "net"), ("*", "net")
START = (NET, "start", 60, (("n", "net"), 7, 2, 3, 4, 50))
FULL = (
    513, ("deep", "reply", "sure"), 3, [(WWW, "addr"), (("a", "www", "net"), "text")],
    [(WWW, "alias", 9, ("x", "net")), (WILD, "addr", 5, 2 ** 32 - 1), (("x", "net"), "text", 0, "a \"b\""), (WILD, "mail", 5, (258, WWW))],
    [START, (NET, "server", 2 ** 31 - 1, ("n", "net"))], [(("n", "net"), "addr", 7, 0), (("old", "net"), "tree", 7, ()), ((), "back", 1, WILD[1:])])
EMPTY = (0, (), 0, [], [], [], [])


def random_message(seed, most=3):
    """A message that a number decides."""
    chance = random.Random(seed)
    labels = ["a", "b", "cc"]

    def name():
        return tuple(chance.choice(labels) for _ in range(chance.randrange(4)))

    def record():
        kind = chance.choice(["addr", "alias", "back", "mail", "server", "start", "text", "tree"])
        data = {"addr": chance.randrange(3), "mail": (chance.randrange(3), name()), "text": chance.choice(["", "x", "\\"]),
                "start": (name(), 1, 2, 3, 4, 5)}.get(kind, name())
        return (chance.choice([(), ("*",)]) + name(), kind, chance.randrange(3), data)

    flags = tuple([flag for flag in ["cut", "deep", "deeper", "reply", "sure"] if chance.random() < 0.4])
    questions = [(name(), chance.choice(["addr", "tree"])) for _ in range(chance.randrange(2))]
    return (chance.randrange(65536), flags, chance.randrange(16), questions, *[[record() for _ in range(chance.randrange(most))] for _ in range(3)])


def large_name(size, label="x"):
    """A name of a size."""
    labels = []
    rest = size - 1
    while rest > 0:
        length = min(rest - 1, 20) if rest - 21 != 1 else 19
        labels.append(label * length)
        rest -= length + 1
    return tuple(labels)
