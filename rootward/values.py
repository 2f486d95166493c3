"""What holds for any object: whole numbers within bounds, and copies for errors."""


def is_whole(value):
    """Return whether any object is an integer; True and False are none."""
    return isinstance(value, int) and not isinstance(value, bool)


def is_between(value, least, most):
    """Return whether any object is an integer from one number to another one."""
    return is_whole(value) and least <= value <= most


def rebuilt(value):
    """Return any object with its lists and tuples built anew, all others as they are."""
    if isinstance(value, list):
        return [rebuilt(part) for part in value]
    if isinstance(value, tuple):
        return tuple([rebuilt(part) for part in value])
    return value
