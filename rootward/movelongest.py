"""The chases with the most steps of those that end."""

from rootward.movereads import ENDED, OTHER, READ


def most_to_come(reading):
    """Return, for each word, the most steps of the chases that end behind it, None without any.

    The answer is None if for a word there are always more."""
    most = {word: None for word in reading.words}
    # A way that comes to no word twice has fewer labels than there are words.
    for _ in range(len(reading.words) + 1):
        better = {word: _most_behind(reading, most, word) for word in reading.words}
        if better == most:
            return most
        most = better
    return None


def _most_behind(reading, most, word):
    what, _, steps = reading.ends[word]
    numbers = [steps] if what == ENDED else []
    for sign in reading.signs:
        number = _with_more(reading.fate(word, sign), most)
        if number is not None:
            numbers.append(number)
    return max(numbers, default=None)


def _with_more(fate, most):
    """Return the most steps behind a fate, these counted, None if no chase ends behind it."""
    what, word, steps = fate
    if what == ENDED:
        return steps
    if what != READ or most[word] is None:
        return None
    return steps + most[word]


def most_steps(reading):
    """Return the greatest number of steps of the chases that end, None if there is no greatest one."""
    most = most_to_come(reading)
    return None if most is None else most[()]


def longest_rows(reading):
    """Return the rows of a machine for the names with the most steps, where there are such."""
    most = most_to_come(reading)
    states = {word: state for state, word in enumerate(reading.words)}
    ended, nowhere = len(states), len(states) + 1
    rows = []
    for word in reading.words:
        ends = {}
        for sign in reading.signs:
            fate = reading.fate(word, sign)
            if most[word] is not None and _with_more(fate, most) == most[word]:
                ends[sign] = states[fate[1]] if fate[0] == READ else ended
            else:
                ends[sign] = nowhere
        roads = [(sign, ends[sign]) for sign in sorted(ends) if sign != OTHER]
        what, _, steps = reading.ends[word]
        rows.append((what == ENDED and steps == most[word], roads, ends[OTHER]))
    return rows + [(True, [], ended), (False, [], nowhere)]
