"""A second, slow way to write messages as bytes: all ways, and a plain way to read them."""

KINDS = ["addr", "alias", "back", "mail", "server", "start", "text", "tree"]
BITS = {"cut": 1, "deep": 2, "deeper": 4, "reply": 8, "sure": 16}


def whole(number, many):
    return list(number.to_bytes(many, "big"))


def parts_of(message):
    """The parts of a message behind its head: lists of bytes, names, and ("size", parts) for the data of records."""
    parts = []
    for name, kind in message[3]:
        parts.extend([name, whole(KINDS.index(kind) + 1, 1)])
    for name, kind, age, data in message[4] + message[5] + message[6]:
        parts.extend([name, whole(KINDS.index(kind) + 1, 1) + whole(age, 4), ("size", data_parts(kind, data))])
    return parts


def data_parts(kind, data):
    if kind == "addr":
        return [whole(data, 4)]
    if kind == "text":
        return [list(data.encode("ascii"))]
    if kind == "mail":
        return [whole(data[0], 2), data[1]]
    if kind == "start":
        return [data[0], [byte for number in data[1:] for byte in whole(number, 4)]]
    return [data]


def head_of(message):
    number, flags, status = message[:3]
    code = whole(number, 2) + [sum([BITS[flag] for flag in flags]), status]
    return code + [byte for part in message[3:] for byte in whole(len(part), 2)]


def ways_to_write(name, code, places):
    """All ways to write a name behind some bytes: tuples (bytes, places), places a dict of names by the places of labels."""
    found = []
    for cut in range(len(name) + 1):
        written, more = [], dict(places)
        for at in range(cut):
            more[len(code) + len(written)] = name[at:]
            written.extend([len(name[at])] + list(name[at].encode("ascii")))
        if cut == len(name):
            found.append((written + [0], more))
        found.extend([(written + [192 + place // 256, place % 256], more) for place, rest in places.items()
                      if rest == name[cut:] and place <= 16383])
    return found


def all_codes(message):
    """All ways to write a message."""
    states = [(head_of(message), {})]
    for part in parts_of(message):
        further = []
        for code, places in states:
            further.extend(ways_behind(code, places, part))
        states = further
    return [code for code, _ in states]


def ways_behind(code, places, part):
    if isinstance(part, list):
        return [(code + part, places)]
    if part[:1] != ("size",):
        return [(code + written, more) for written, more in ways_to_write(part, code, places)]
    states = [(code + [0, 0], places)]
    for inner in part[1]:
        states = [state for ahead, known in states for state in ways_behind(ahead, known, inner)]
    start = len(code) + 2
    return [(ahead[:start - 2] + whole(len(ahead) - start, 2) + ahead[start:], known) for ahead, known in states]


class Unfit(Exception):
    """A part is not as it has to be."""


def read(code):
    """The message of a list of bytes, or the place at which the first part begins that is not as it has to be."""
    state = {"at": 0, "places": {}}

    def take(many):
        if state["at"] + many > len(code):
            raise Unfit()
        state["at"] += many
        return code[state["at"] - many:state["at"]]

    def number(many, least, most):
        value = int.from_bytes(bytes(take(many)), "big")
        if not least <= value <= most:
            raise Unfit()
        return value

    def name(is_wild_allowed):
        labels, starts = [], []
        while True:
            place = state["at"]
            length = number(1, 0, 255)
            if length == 0:
                rest = ()
                break
            if length >= 192:
                target = (length - 192) * 256 + number(1, 0, 255)
                if target not in state["places"]:
                    raise Unfit()
                rest = state["places"][target]
                break
            starts.append(place)
            labels.append("".join([chr(byte) for byte in take(length)]))
        found = tuple(labels) + rest
        state["places"].update({place: found[at:] for at, place in enumerate(starts)})
        plain = found[1:] if is_wild_allowed and found[:1] == ("*",) else found
        for label in plain:
            if not 1 <= len(label) <= 20 or label[0] == "-" or label[-1] == "-":
                raise Unfit()
            if [sign for sign in label if not ("a" <= sign <= "z" or "0" <= sign <= "9" or sign == "-")]:
                raise Unfit()
        if len(found) > 127 or 1 + sum([len(label) + 1 for label in found]) > 255:
            raise Unfit()
        return found

    def data(kind, many):
        start = state["at"]
        if kind == "addr":
            found = number(4, 0, 2 ** 32 - 1)
        elif kind == "text":
            found = "".join([chr(byte) for byte in take(many)])
            if many > 60 or [sign for sign in found if not " " <= sign <= "~" or sign == "%"]:
                raise Unfit()
        elif kind == "mail":
            found = (number(2, 0, 65535), name(False))
        elif kind == "start":
            found = (name(False), number(4, 0, 2 ** 32 - 1)) + tuple([number(4, 0, 2 ** 31 - 1) for _ in range(4)])
        else:
            found = name(False)
        if state["at"] != start + many:
            raise Unfit()
        return found

    def part(call, *arguments):
        state["start"] = state["at"]
        return call(*arguments)

    try:
        told = part(number, 2, 0, 65535)
        bits, status = part(number, 1, 0, 31), part(number, 1, 0, 15)
        many = [part(number, 2, 0, 65535) for _ in range(4)]
        questions = [(part(name, False), KINDS[part(number, 1, 1, 8) - 1]) for _ in range(many[0])]
        lists = []
        for count in many[1:]:
            lists.append([])
            for _ in range(count):
                owner, kind = part(name, True), KINDS[part(number, 1, 1, 8) - 1]
                age, length = part(number, 4, 0, 2 ** 31 - 1), part(number, 2, 0, 65535)
                lists[-1].append((owner, kind, age, part(data, kind, length)))
    except Unfit:
        return state["start"]
    if state["at"] < len(code):
        return state["at"]
    return (told, tuple([word for word in BITS if bits & BITS[word]]), status, questions, *lists)
