"""A second, slow reading of moves, and of what numbers show that a chase grows, written apart from the program."""

import random
from itertools import product

SIGNS = ["a", "b", "q"]
SOME = [name for many in range(5) for name in product(SIGNS, repeat=many)]


def step(moves, name):
    """The name to which a name is moved by a list of moves, None if it stays."""
    for word, owner, target in moves:
        if word == "alias" and owner == name:
            return target
    above = [move for move in moves if move[0] == "tree" and len(name) > len(move[1]) and name[len(name) - len(move[1]):] == move[1]]
    if not above:
        return None
    _, owner, target = max(above, key=lambda move: len(move[1]))
    return name[:len(name) - len(owner)] + target


def chase(moves, name, longest=120, most=4000):
    """How a chase ends, with all its names. It is taken as one that grows when a name is very long."""
    names, places = [name], {name: 0}
    while True:
        name = step(moves, name)
        if name is None:
            return ("ends", names[-1], len(names) - 1), names
        if name in places:
            return ("ring", places[name], len(names) - places[name]), names
        if len(name) > longest or len(names) > most:
            return ("grows",), names
        places[name] = len(names)
        names.append(name)


def last_name(moves, name):
    """The last name of a chase, None if it never ends."""
    end = chase(moves, name)[0]
    return end[1] if end[0] == "ends" else None


def shows_growth(moves, name, value):
    """What the document says of `judge_growth`, for a tuple of the right kinds."""
    _, first, length, kept = value
    most = 1 + max([len(owner) for _, owner, _ in moves], default=0)
    names = [name]
    while len(names) <= first + length:
        names.append(step(moves, names[-1]))
        if names[-1] is None:
            return False
    if any([len(one) < kept + most for one in names[first:first + length]]):
        return False
    ahead, behind = names[first], names[first + length]
    end = ahead[kept:]
    return len(behind) > len(ahead) and behind[len(behind) - len(end):] == end


def random_moves(seed, signs=("a", "b", "c"), most=8):
    """Return a list of moves, unlike by their names, that a number decides."""
    chance = random.Random(seed)
    moves = {}
    for _ in range(chance.randrange(most + 1)):
        owner = tuple([chance.choice(signs) for _ in range(chance.choice([0, 1, 1, 2, 2, 3]))])
        target = tuple([chance.choice(signs) for _ in range(chance.randrange(4))])
        moves[owner] = (chance.choice(["alias", "tree", "tree", "tree"]), owner, target)
    return list(moves.values())
