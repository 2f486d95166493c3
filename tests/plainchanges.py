"""A second, slow reading of changes: deed by deed, and of all books over a few names, kinds, data and ages."""

from itertools import combinations, product


def holds(book, condition):
    """Whether a condition holds for a dict: to names and kinds a tuple of the age and the set of the data."""
    word, name, rest = condition[0], condition[1], condition[2:]
    there = any([key[0] == name for key in book])
    if word in ("there", "free"):
        return there if word == "there" else not there
    datas = book[name, rest[0]][1] if (name, rest[0]) in book else frozenset()
    return {"has": len(datas) > 0, "lacks": len(datas) == 0, "just": word == "just" and datas == frozenset(rest[-1])}[word]


def behind(book, change):
    """The book behind a change."""
    if not all([holds(book, condition) for condition in change[0]]):
        return book
    book = dict(book)
    for deed in change[1]:
        if deed[0] == "add":
            name, kind, age, data = deed[1]
            book[name, kind] = (age, book.get((name, kind), (age, frozenset()))[1] | {data})
        elif deed[0] == "take" and deed[1:3] in book:
            age, datas = book.pop(deed[1:3])
            if datas != {deed[3]}:
                book[deed[1:3]] = (age, datas - {deed[3]})
        elif deed[0] == "clear":
            book.pop(deed[1:3], None)
        elif deed[0] == "drop":
            book = {key: entry for key, entry in book.items() if key[0] != deed[1]}
    return book


def told_in(changes):
    """The data told of each name and kind, and all names."""
    datas, names, ages = {}, {}, {}
    for change in changes:
        for entry in change[0] + change[1]:
            if entry[0] == "add":
                name, kind, age, data = entry[1]
                datas.setdefault((name, kind), {})[data] = True
                ages[age] = True
                names[name] = True
                continue
            names[entry[1]] = True
            if len(entry) > 2:
                told = datas.setdefault(entry[1:3], {})
                for data in {"take": entry[3:], "just": entry[-1]}.get(entry[0], ()):
                    told[data] = True
    return datas, list(names), list(ages)


def small_books(changes):
    """All books over the names, kinds, data and ages of some changes, one more data each, one more kind at each name, one more age."""
    datas, names, ages = told_in(changes)
    more = {"addr": 77, "text": "q", "mail": (7, ("q",)), "start": (("q",), 1, 2, 3, 4, 5)}
    cells = {key: list(told) + [more.get(key[1], ("q",))] for key, told in datas.items()}
    for name in names:
        cells[name, "back"] = cells.get((name, "back"), [("q",)])
    choices = []
    for key, told in cells.items():
        sets = [frozenset(some) for many in range(1, len(told) + 1) for some in combinations(told, many)]
        choices.append([None] + [(age, some) for age in ages + [max(ages, default=0) + 1] for some in sets])
    for chosen in product(*choices):
        yield {key: entry for key, entry in zip(cells, chosen) if entry is not None}


def number(book):
    return sum([len(datas) for _, datas in book.values()])


def plain(book):
    """A book as a list of its sets, in no order."""
    return [key + (age, tuple(sorted(datas))) for key, (age, datas) in book.items()]
