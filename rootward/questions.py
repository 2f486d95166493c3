"""Short names of askers: what they try, and what of this is found."""

from rootward.checks import check_asked_kind, check_plain_name
from rootward.errors import InvalidSearch
from rootward.forestparts import chased, zones_by_apex
from rootward.forests import check_forest
from rootward.labels import is_asked
from rootward.values import is_between, renewed

MOST_DOTS = 12


def tries(search, name):
    """Return the names that an asker tries for a short name, in their sequence."""
    _check_search(search)
    check_plain_name(name)
    return [name + end for end in _ends(search, len(name))]


def _ends(search, labels):
    """Return what names with so many labels are tried with behind them, () for the name itself, each once."""
    dots, ends = search
    return list({end: True for end in ([()] + ends if labels >= dots else ends + [()])})


def unlike_tries(search, other_search):
    """Return the first name with unlike lists of tries, None if there is none."""
    _check_search(search)
    _check_search(other_search)
    for labels in range(MOST_DOTS + 1):
        if _ends(search, labels) != _ends(other_search, labels):
            # The first name with so many labels has the first label of one sign again and again.
            return ("0",) * labels
    return None


def asked_for(search, forest, name, kind):
    """Return the tuple (index, outcome) of the first try that is found, None if none is."""
    _check_search(search)
    check_forest(forest)
    check_plain_name(name)
    check_asked_kind(kind)
    zones = zones_by_apex(forest)
    for index, end in enumerate(_ends(search, len(name))):
        outcome = chased(zones, name + end, kind)[0]
        if outcome[0] == "found":
            return (index, outcome)
    return None


def _check_search(search):
    if not _is_search(search):
        raise InvalidSearch(renewed(search))


def _is_search(value):
    """Return whether any object is a search."""
    if not isinstance(value, tuple) or len(value) != 2:
        return False
    dots, ends = value
    if not is_between(dots, 0, MOST_DOTS) or not isinstance(ends, list) or not all([is_asked(end) for end in ends]):
        return False
    return len({end: True for end in ends}) == len(ends)
