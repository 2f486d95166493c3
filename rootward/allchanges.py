"""Changes for all books: whether two are alike, whether their sequence matters, when they apply, what they need."""

from rootward.changecells import cells_of, cheapest, other_age
from rootward.changeparts import book_behind, book_of_sets, check_change, sets_in
from rootward.records import datas_in_order, is_set, key_place


def apart(one, other):
    """Return a book, as sets, of fewest records at which two changes leave other sets, None if they are alike."""
    check_change(one)
    check_change(other)
    return _least_book([one, other], _cases_apart(one, other))


def order_apart(one, other):
    """Return a book, as sets, of fewest records at which the sequence of two changes matters, None if there is none."""
    check_change(one)
    check_change(other)
    return _least_book([one, other], _cases_of_order(one, other))


def _cases_apart(one, other):
    """Return the ways in which two changes may leave other sets: tuples (needs, ends) as changecells.py tells them."""
    (conditions, deeds), (other_conditions, other_deeds) = one, other
    return [
        ([(conditions, [], True), (other_conditions, [], True)], (deeds, other_deeds)),
        ([(conditions, [], True), (other_conditions, [], False)], (deeds, [])),
        ([(conditions, [], False), (other_conditions, [], True)], ([], other_deeds))]


def _cases_of_order(one, other):
    """Return the ways in which two changes may leave other sets if they come in the other sequence."""
    (conditions, deeds), (other_conditions, other_deeds) = one, other
    one_first, other_first = deeds + other_deeds, other_deeds + deeds
    cases = [
        ([(conditions, [], True), (other_conditions, [], False), (other_conditions, deeds, True)],
         (one_first, deeds)),
        ([(conditions, [], False), (other_conditions, [], True), (conditions, other_deeds, True)],
         (other_deeds, other_first))]
    for applies, end in [(True, one_first), (False, deeds)]:
        for other_applies, other_end in [(True, other_first), (False, other_deeds)]:
            needs = [(conditions, [], True), (other_conditions, [], True)]
            needs = needs + [(other_conditions, deeds, applies), (conditions, other_deeds, other_applies)]
            cases.append((needs, (end, other_end)))
    return cases


def _least_book(changes, cases):
    """Return the sets, in order, of the shortest book of some cases, None without one."""
    cells = cells_of(changes)
    books = [cheapest(cells, needs, ends) for needs, ends in cases]
    books = [book for book in books if book is not None]
    if len(books) == 0:
        return None
    age = other_age(changes)
    sets = [(name, kind, age, datas_in_order(kind, datas)) for name, kind, datas in min(books, key=_number)]
    return sorted(sets, key=_place)


def _number(sets):
    """Return the number of the records of some sets."""
    return sum([len(entry[-1]) for entry in sets])


def _place(entry):
    return key_place(entry[:2])


def judge_apart(one, other, value):
    """Return whether any object is a book, as sets, of fewest records at which two changes leave other sets."""
    least = apart(one, other)
    if least is None or not _is_book_of(value, _number(least)):
        return False
    book = book_of_sets(value)
    return sets_in(book_behind(book, one)) != sets_in(book_behind(book, other))


def judge_order(one, other, value):
    """Return whether any object is a book, as sets, of fewest records at which the sequence of two changes matters."""
    least = order_apart(one, other)
    if least is None or not _is_book_of(value, _number(least)):
        return False
    book = book_of_sets(value)
    end, other_end = book_behind(book_behind(book, one), other), book_behind(book_behind(book, other), one)
    return sets_in(end) != sets_in(other_end)


def _is_book_of(value, many):
    """Return whether any object is a list of sets, in order, with so many records."""
    if not isinstance(value, list) or not all([is_set(entry) for entry in value]):
        return False
    places = [_place(entry) for entry in value]
    return _number(value) == many and all([place < later for place, later in zip(places, places[1:])])


def when(change):
    """Return "always", "never" or "sometimes": whether a change applies to all books."""
    check_change(change)
    conditions = change[0]
    return _frequency([change], [(conditions, [], True)], [(conditions, [], False)])


def behind(one, other):
    """Return "always", "never" or "sometimes": whether a change applies behind another one that applies."""
    check_change(one)
    check_change(other)
    (conditions, deeds), other_conditions = one, other[0]
    first = (conditions, [], True)
    return _frequency([one, other], [first, (other_conditions, deeds, True)], [first, (other_conditions, deeds, False)])


def _frequency(changes, needs, needs_unlike):
    """Return how often some needs stand as they have to, if they stand so or in another way."""
    cells = cells_of(changes)
    if cheapest(cells, needs, None) is None:
        return "never"
    return "always" if cheapest(cells, needs_unlike, None) is None else "sometimes"


def idle(change):
    """Return True if a change changes no book, otherwise False."""
    check_change(change)
    conditions, deeds = change
    return cheapest(cells_of([change]), [(conditions, [], True)], (deeds, [])) is None


def lean(change):
    """Return a change without the deeds, then without the conditions, that it does not need."""
    check_change(change)
    conditions, deeds = list(change[0]), list(change[1])
    cells = cells_of([change])
    at = _needless_deed(cells, conditions, deeds)
    while at is not None:
        deeds = deeds[:at] + deeds[at + 1:]
        at = _needless_deed(cells, conditions, deeds)
    at = _needless_condition(cells, conditions, deeds)
    while at is not None:
        conditions = conditions[:at] + conditions[at + 1:]
        at = _needless_condition(cells, conditions, deeds)
    return (conditions, deeds)


def _needless_deed(cells, conditions, deeds):
    """Return the index of the last deed without which a change is alike, None if there is none."""
    for at in reversed(range(len(deeds))):
        if cheapest(cells, [(conditions, [], True)], (deeds, deeds[:at] + deeds[at + 1:])) is None:
            return at
    return None


def _needless_condition(cells, conditions, deeds):
    """Return the index of the last condition without which a change is alike, None if there is none.

    It is alike if the deeds change no book to which it applies without the condition alone."""
    for at in reversed(range(len(conditions))):
        needs = [(conditions[:at] + conditions[at + 1:], [], True), (conditions[at:at + 1], [], False)]
        if cheapest(cells, needs, (deeds, [])) is None:
            return at
    return None
