"""Systems, read from their texts."""

from raypaths.scanning import tokens_of

MOST_GLASSES = 64
MOST_PARTS = 64
PART_WORDS = ("surface", "mirror", "stop")
SHAPE_WORDS = ("flat", "curve", "radius")
BEHIND_SHAPE = ("conic", "clear", ";")
NO_TOKEN = 1
CANT_STAND = 2
NAME_TWICE = 3
NO_GLASS = 4
TOO_MANY = 5
BAD_NUMBER = 6


class SystemFault(ValueError):
    def __init__(self, place, kind):
        self.place = place
        self.kind = kind


# A glass is its three indices; medium is the glass that light comes in.
class System:
    def __init__(self, medium, parts):
        self.medium = medium
        self.parts = parts


# What light meets. glass is None but at a surface; reach, how far from the axis light is let through,
# is None where it's let through anywhere.
class Part:
    def __init__(self, kind, gap):
        self.kind = kind
        self.gap = gap
        self.glass = None
        self.curve = (0, 1)
        self.conic = (0, 1)
        self.reach = None


class Reader:
    def __init__(self, tokens):
        self.tokens = tokens
        self.at = 0

    def ahead(self):
        return self.tokens[self.at]

    def expect(self, kinds):
        token = self.ahead()
        if token.kind == "none":
            raise SystemFault(token.place, NO_TOKEN)
        if token.kind not in kinds:
            raise SystemFault(token.place, CANT_STAND)
        return token

    def take(self, kinds):
        token = self.expect(kinds)
        self.at += 1
        return token

    # A number's fault lies at the token behind it, whose own faults have lesser numbers and go first.
    def refuse_number_before(self, kinds):
        raise SystemFault(self.expect(kinds).place, BAD_NUMBER)


def read_number(reader):
    token = reader.take(("whole", "pointed"))
    if token.kind == "pointed" or reader.ahead().kind != "/":
        return token.value
    reader.take(("/",))
    below = reader.take(("whole",))
    if below.value[0] == 0:
        raise SystemFault(below.place, BAD_NUMBER)
    return (token.value[0], below.value[0])


def read_value(reader):
    if reader.ahead().kind != "-":
        return read_number(reader)
    reader.take(("-",))
    number = read_number(reader)
    return (-number[0], number[1])


def read_new_name(reader, known):
    token = reader.take(("name",))
    if token.value in known:
        raise SystemFault(token.place, NAME_TWICE)
    return token.value


def read_glass_name(reader, glasses):
    token = reader.take(("name",))
    if token.value not in glasses:
        raise SystemFault(token.place, NO_GLASS)
    return glasses[token.value]


def read_index(reader, mark):
    index = read_number(reader)
    if index[0] < index[1]:
        reader.refuse_number_before((mark,))
    reader.take((mark,))
    return index


def read_glasses(reader):
    glasses = {}
    reader.expect(("glass",))
    while reader.expect(("glass", "start")).kind == "glass":
        word = reader.take(("glass",))
        if len(glasses) == MOST_GLASSES:
            raise SystemFault(word.place, TOO_MANY)
        name = read_new_name(reader, glasses)
        reader.take((":",))
        glasses[name] = tuple([read_index(reader, mark) for mark in (",", ",", ";")])
    return glasses


def read_start(reader, glasses):
    reader.take(("start",))
    medium = read_glass_name(reader, glasses)
    reader.take((";",))
    return medium


def read_radius(reader):
    radius = read_value(reader)
    if radius[0] == 0:
        reader.refuse_number_before(BEHIND_SHAPE)
    if radius[0] < 0:
        return (-radius[1], -radius[0])
    return (radius[1], radius[0])


def read_shape(reader, part):
    word = reader.take(SHAPE_WORDS)
    if word.kind == "curve":
        part.curve = read_value(reader)
    if word.kind == "radius":
        part.curve = read_radius(reader)
    if reader.expect(BEHIND_SHAPE).kind == "conic":
        reader.take(("conic",))
        part.conic = read_value(reader)


def read_reach(reader, part):
    if reader.expect(("clear", ";")).kind == "clear":
        reader.take(("clear",))
        part.reach = read_number(reader)
        if part.reach[0] == 0:
            reader.refuse_number_before((";",))
    reader.take((";",))


def read_part(reader, glasses, names):
    word = reader.take(PART_WORDS)
    name = read_new_name(reader, names)
    names[name] = True
    reader.take(("after",))
    part = Part(word.kind, read_number(reader))
    if part.kind == "surface":
        reader.take(("into",))
        part.glass = read_glass_name(reader, glasses)
    if part.kind != "stop":
        read_shape(reader, part)
    read_reach(reader, part)
    return part


def read_system(text):
    reader = Reader(tokens_of(text))
    glasses = read_glasses(reader)
    medium = read_start(reader, glasses)
    names = {}
    parts = []
    while reader.ahead().kind != "end":
        word = reader.expect(PART_WORDS)
        if len(parts) == MOST_PARTS:
            raise SystemFault(word.place, TOO_MANY)
        parts.append(read_part(reader, glasses, names))
    return System(medium, parts)
