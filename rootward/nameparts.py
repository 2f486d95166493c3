"""Names that are known to be names: their ends, their places in the order, their sizes."""


def ends_with(name, other):
    """Return whether a name is at or below another one."""
    return len(name) >= len(other) and name[len(name) - len(other):] == other


def is_beneath(name, other):
    """Return whether a name is below another one."""
    return len(name) > len(other) and ends_with(name, other)


def exchanged(name, old, new):
    """Return a name that is at or below an old one, with the labels of the new one instead."""
    return name[:len(name) - len(old)] + new


def place(name):
    """Return what names are compared by: their labels from the last one on."""
    return name[::-1]


def in_order(names):
    """Return some unlike names in the order of names."""
    return sorted(names, key=place)


def weight(name):
    """Return the size of a name."""
    return 1 + sum([len(label) + 1 for label in name])


def sized_place(name):
    """Return what decides which of some names is the first one."""
    return (weight(name), place(name))
