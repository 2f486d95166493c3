"""The parts of a text of a zone: names, integers and data as they are written, and as they are read."""

from rootward.labels import is_asked, is_name
from rootward.nameparts import is_beneath
from rootward.records import NAMING, is_data

DIGITS = "0123456789"
# No integer of a text has more digits, and Python itself refuses to read very many.
MOST_DIGITS = 10


def full_name(name):
    """Return a name with its last dot."""
    return "." if name == () else "".join([label + "." for label in name])


def short_name(name, origin):
    """Return the shortest way to write a name behind an origin, of two the first as texts compare."""
    if name == ():
        return "."
    if name == origin:
        return "@"
    if is_beneath(name, origin):
        return ".".join(name[:len(name) - len(origin)])
    return full_name(name)


def full_data(kind, data):
    """Return the text of data of a kind, names with their last dots."""
    return _data_text(kind, data, [full_name(name) for name in _names_of(kind, data)])


def short_data(kind, data, origin):
    """Return the shortest text of data of a kind behind an origin."""
    return _data_text(kind, data, [short_name(name, origin) for name in _names_of(kind, data)])


def _names_of(kind, data):
    """Return the list of the name in data of a kind, an empty one if there is none."""
    if kind in NAMING:
        return [data]
    if kind == "mail":
        return [data[1]]
    return [data[0]] if kind == "start" else []


def _data_text(kind, data, names):
    """Return the text of data of a kind; names is the list of the texts of the names in them."""
    if kind in NAMING:
        return names[0]
    if kind == "mail":
        return f"{data[0]} {names[0]}"
    if kind == "start":
        return " ".join(names + [str(number) for number in data[1:]])
    return _quoted(data) if kind == "text" else str(data)


def _quoted(text):
    return "\"" + text.replace("\\", "\\\\").replace("\"", "\\\"") + "\""


def read_full_name(text):
    """Return the name that a text with a last dot is, None if it is none."""
    if text == ".":
        return ()
    name = tuple(text[:-1].split("."))
    return name if text[-1:] == "." and is_name(name) else None


def read_name(text, origin):
    """Return the name that a text is behind an origin, None if it is none."""
    if text == "@":
        return origin
    if text[-1:] == ".":
        return read_full_name(text)
    name = tuple(text.split(".")) + origin
    return name if is_name(name) else None


def read_asked(text, origin):
    """Return the name without `*` that a text is behind an origin, None if it is none."""
    name = read_name(text, origin)
    return name if is_asked(name) else None


def read_whole(text):
    """Return the integer that a text is, None if it is none, has leading zeros, or is too great for all uses."""
    if not 1 <= len(text) <= MOST_DIGITS or text.strip(DIGITS) != "":
        return None
    return None if text[0] == "0" and len(text) > 1 else int(text)


def read_data(kind, text, origin):
    """Return the data of a kind that a text is behind an origin, None if it is none."""
    data = _read_parts(kind, text, origin)
    return data if is_data(kind, data) else None


def _read_parts(kind, text, origin):
    """Return what a text tells for a kind, None, or None within a tuple, in the place of what is not right."""
    if kind == "text":
        return _unquoted(text)
    if kind == "addr":
        return read_whole(text)
    if kind in NAMING:
        return read_asked(text, origin)
    words = text.split(" ")
    if kind == "mail":
        return tuple([read_whole(word) for word in words[:1]] + [read_asked(word, origin) for word in words[1:]])
    return tuple([read_asked(word, origin) for word in words[:1]] + [read_whole(word) for word in words[1:]])


def _unquoted(text):
    """Return the text between two quotes, in which a backslash stands ahead of each quote and backslash, or None."""
    if len(text) < 2 or text[0] != "\"" or text[-1] != "\"":
        return None
    signs = []
    is_marked = False
    for sign in text[1:-1]:
        if is_marked and sign not in ("\"", "\\"):
            return None
        if not is_marked and sign == "\"":
            return None
        is_marked = sign == "\\" and not is_marked
        if not is_marked:
            signs.append(sign)
    return None if is_marked else "".join(signs)
