"""Moves, laid out by their names, and a name that is moved step by step."""


class Book:
    """Some moves, by their names."""

    def __init__(self, moves):
        self.alias_targets = {name: target for word, name, target in moves if word == "alias"}
        self.tree_targets = {name: target for word, name, target in moves if word == "tree"}
        self.tree_lengths = sorted({len(name) for name in self.tree_targets})[::-1]
        self.most_labels = max([len(name) for _, name, _ in moves], default=0)

    def tree_above(self, name):
        """Return the name with the most labels of the trees that a name is below, None if there is none."""
        for length in self.tree_lengths:
            if length < len(name) and name[len(name) - length:] in self.tree_targets:
                return name[len(name) - length:]
        return None

    def moved(self, name):
        """Return the name to which a name is moved, None if it is not."""
        if name in self.alias_targets:
            return self.alias_targets[name]
        owner = self.tree_above(name)
        if owner is None:
            return None
        return name[:len(name) - len(owner)] + self.tree_targets[owner]


class Walk:
    """A name on its way: its labels are kept as a list, as long names have to be moved without being copied."""

    def __init__(self, book, name):
        self.book = book
        self.on_way = list(name)

    def go(self):
        """Move the name by one step; return True, or False if it stays."""
        many = len(self.on_way)
        if many <= self.book.most_labels and tuple(self.on_way) in self.book.alias_targets:
            self.on_way = list(self.book.alias_targets[tuple(self.on_way)])
            return True
        for length in self.book.tree_lengths:
            if length < many:
                owner = tuple(self.on_way[many - length:])
                if owner in self.book.tree_targets:
                    del self.on_way[many - length:]
                    self.on_way.extend(self.book.tree_targets[owner])
                    return True
        return False


def find_ring(book, name):
    """Return (first, length) of a chase in which a name comes again."""
    seen = {}
    while name not in seen:
        seen[name] = len(seen)
        name = book.moved(name)
    return (seen[name], len(seen) - seen[name])


def find_growth(book, name):
    """Return (first, length, kept) by which it shows that a chase that grows does.

    While a name has no fewer labels than at some time, only its last labels at that time decide on how it goes on. So
    the times are kept since which it had no fewer labels, until the last labels of one come again."""
    window = book.most_labels + 1
    walk = Walk(book, name)
    kept = []
    times = {}
    at = 0
    while True:
        many = len(walk.on_way)
        while len(kept) > 0 and kept[-1][0] > many:
            _, end = kept.pop()
            del times[end]
        if many >= window:
            end = tuple(walk.on_way[many - window:])
            if end in times:
                first, many_then = times[end]
                return (first, at - first, many_then - window)
            times[end] = (at, many)
            kept.append((many, end))
        walk.go()
        at += 1


def shows_growth(book, name, first, length, kept):
    """Return whether three numbers show that the chase of a name grows."""
    walk = Walk(book, name)
    for _ in range(first):
        if not walk.go():
            return False
    ahead = list(walk.on_way)
    least = kept + book.most_labels + 1
    for _ in range(length):
        if len(walk.on_way) < least or not walk.go():
            return False
    end = ahead[kept:]
    return len(walk.on_way) > len(ahead) and walk.on_way[len(walk.on_way) - len(end):] == end
