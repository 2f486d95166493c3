"""Forwarders: books by which nodes hand questions on, and the routes of all names."""

from rootward.checks import check_node, check_plain_name, is_node
from rootward.errors import InvalidBooks
from rootward.labels import is_asked
from rootward.nameparts import ends_with, in_order, place, sized_place
from rootward.values import is_same, renewed


def _are_books(value):
    """Return whether any object is books."""
    if not isinstance(value, dict) or len(value) == 0 or not all([is_node(node) for node in value]):
        return False
    return all([_is_book(book, value) for book in value.values()])


def _is_book(value, books):
    """Return whether any object is what some books can have for a node."""
    if not isinstance(value, list) or not all([_is_entry(entry, books) for entry in value]):
        return False
    origins = [origin for origin, _ in value]
    # The root is ahead of all other names.
    return origins[:1] == [()] and all([place(one) < place(behind) for one, behind in zip(origins, origins[1:])])


def _is_entry(value, books):
    if not isinstance(value, tuple) or len(value) != 2 or not is_asked(value[0]):
        return False
    return value[1] is None or (is_node(value[1]) and value[1] in books)


def _check_books(books):
    if not _are_books(books):
        raise InvalidBooks(renewed(books))


def route(books, node, name):
    """Return the nodes that a question for a name comes to from a node, and "here" or "ring"."""
    _check_books(books)
    check_node(books, node)
    check_plain_name(name)
    return _route(books, node, name)


def _route(books, node, name):
    nodes = [node]
    while True:
        onward = _longest(books[nodes[-1]], name)[1]
        if onward is None:
            return (nodes, "here")
        if onward in nodes:
            return (nodes, "ring")
        nodes.append(onward)


def _longest(book, name):
    """Return the tuple of a book with the longest origin at or above a name."""
    # Of names above one another the longer one is behind the other one in the order of names.
    return [entry for entry in book if ends_with(name, entry[0])][-1]


def _origins(books):
    """Return the origins of books, in the order of names."""
    return in_order(list({origin: True for book in books.values() for origin, _ in book}))


def origin_of(books, name):
    """Return the class of a name: the longest origin at or above it."""
    _check_books(books)
    check_plain_name(name)
    return [origin for origin in _origins(books) if ends_with(name, origin)][-1]


def rings(books):
    """Return the tuples (origin, node) from which the route of the names of a class is a ring, in order."""
    _check_books(books)
    return [(origin, node) for origin in _origins(books) for node in sorted(books) if _is_ring(books, node, origin)]


def _is_ring(books, node, name):
    return _route(books, node, name)[1] == "ring"


def first_ring(books, node):
    """Return the first name whose route from a node is a ring, None if there is none."""
    _check_books(books)
    check_node(books, node)
    return min([origin for origin in _origins(books) if _is_ring(books, node, origin)], key=sized_place, default=None)


def ranks(books, name):
    """Return a dict: to each node the number of further nodes to which questions for a name go on, None for a ring."""
    _check_books(books)
    check_plain_name(name)
    return _ranks(books, name)


def _ranks(books, name):
    found = {}
    for node in books:
        nodes, end = _route(books, node, name)
        found[node] = len(nodes) - 1 if end == "here" else None
    return found


def judge_ranks(books, value):
    """Return whether any object is the dict of the ranks for each origin, and there is no ring."""
    _check_books(books)
    origins = _origins(books)
    if not isinstance(value, dict) or len(value) != len(origins) or not all([origin in value for origin in origins]):
        return False
    return all([_are_ranks(_ranks(books, origin), value[origin]) for origin in origins])


def _are_ranks(wanted, value):
    """Return whether any object is a dict of ranks without a ring."""
    if not isinstance(value, dict) or len(value) != len(wanted) or not all([node in value for node in wanted]):
        return False
    return all([wanted[node] is not None and is_same(value[node], wanted[node]) for node in wanted])


def unlike_routes(books, other_books, node):
    """Return the first name that goes from a node to unlike ends by two books, None if there is none."""
    _check_books(books)
    _check_books(other_books)
    check_node(books, node)
    check_node(other_books, node)
    origins = _origins(books) + _origins(other_books)
    unlike = [origin for origin in origins if _end(books, node, origin) != _end(other_books, node, origin)]
    return min(unlike, key=sized_place, default=None)


def _end(books, node, name):
    """Return the node that answers a question, None for a ring."""
    nodes, end = _route(books, node, name)
    return nodes[-1] if end == "here" else None
