"""What holds for any object: whole numbers within bounds, and copies for errors."""


def is_whole(value):
    """Return whether any object is an integer; True and False are none."""
    return isinstance(value, int) and not isinstance(value, bool)


def is_between(value, least, most):
    """Return whether any object is an integer from one number to another one."""
    return is_whole(value) and least <= value <= most


def rebuilt(value):
    """Return any object with its lists and tuples built anew, all others as they are."""
    if isinstance(value, list):
        return [rebuilt(part) for part in value]
    if isinstance(value, tuple):
        return tuple([rebuilt(part) for part in value])
    return value


def renewed(value):
    """Return any object with its lists, tuples and dicts built anew, all others as they are."""
    if isinstance(value, list):
        return [renewed(part) for part in value]
    if isinstance(value, tuple):
        return tuple([renewed(part) for part in value])
    if isinstance(value, dict):
        return {key: renewed(part) for key, part in value.items()}
    return value


def is_same(value, other):
    """Return whether any object is just as a tuple or list of names, texts and integers is; True is not 1."""
    if is_whole(other):
        return is_whole(value) and value == other
    if isinstance(other, tuple):
        return isinstance(value, tuple) and _are_same(value, other)
    if isinstance(other, list):
        return isinstance(value, list) and _are_same(value, other)
    return value == other


def _are_same(value, other):
    return len(value) == len(other) and all([is_same(part, other_part) for part, other_part in zip(value, other)])
