"""The language of schemas: tokens are read as declarations (k2, k3)."""

from recstore.errors import BadSchema
from recstore.tokens import is_name, is_number

# Size and whether it is signed.
WORDS = {
    "u8": (1, False), "u16": (2, False), "u32": (4, False),
    "i8": (1, True), "i16": (2, True), "i32": (4, True),
}
BIT_WORDS = ("u8", "u16", "u32")
GREATEST_VERSION = 4
GREATEST_COUNT = 6
GREATEST_WIDTH = 32
GREATEST_NUMBER = 999999999


class Reader:
    """Reads tokens one by one; the first one that does not fit is refused."""

    def __init__(self, tokens):
        self.tokens = tokens
        self.at = 0

    def ended(self):
        """Whether there are no more tokens."""
        return self.at == len(self.tokens)

    def ahead(self):
        """The next token; at the end the empty text, which no token is."""
        return "" if self.ended() else self.tokens[self.at]

    def refuse(self):
        """Refuses the next token, or the end."""
        raise BadSchema(self.at + 1, "unexpected end" if self.ended() else "unexpected token")

    def accept(self, token):
        """Whether this is the next token, which then is read."""
        if self.ahead() != token:
            return False
        self.at += 1
        return True

    def expect(self, token):
        """Reads this token."""
        if not self.accept(token):
            self.refuse()

    def take_name(self):
        """Reads an identifier."""
        token = self.ahead()
        if not is_name(token):
            self.refuse()
        self.at += 1
        return token

    def take_number(self, least, greatest):
        """Reads a number within these bounds."""
        token = self.ahead()
        if not is_number(token) or int(token) < least or int(token) > greatest:
            self.refuse()
        self.at += 1
        return int(token)


def read_schema(tokens):
    """The schema (c4) that the tokens are; raises BadSchema."""
    reader = Reader(tokens)
    declarations = []
    while not reader.ended():
        declarations.append(_declaration(reader))
    return tuple(declarations)


def _declaration(reader):
    if reader.accept("struct"):
        heading = ("struct", reader.take_name())
    else:
        reader.expect("record")
        name = reader.take_name()
        heading = ("record", name, reader.take_number(1, GREATEST_VERSION))
    reader.expect("{")
    fields = [_field(reader)]
    while not reader.accept("}"):
        fields.append(_field(reader))
    return heading + (tuple(fields),)


def _field(reader):
    name = reader.take_name()
    was = reader.take_name() if reader.accept("was") else None
    reader.expect(":")
    kind = _kind(reader)
    initial = _initial(reader) if reader.accept("=") else None
    reader.expect(";")
    return name, was, kind, initial


def _initial(reader):
    sign = -1 if reader.accept("-") else 1
    return sign * reader.take_number(0, GREATEST_NUMBER)


def _kind(reader):
    """Reads a type (c3)."""
    if reader.accept("bits"):
        return _bits(reader)
    if reader.accept("one"):
        return _union(reader)
    if reader.accept("list"):
        reader.expect("of")
        return ("list", _item(reader))
    if reader.accept("ref"):
        return ("ref", reader.take_name())
    if is_number(reader.ahead()):
        count = reader.take_number(1, GREATEST_COUNT)
        reader.expect("of")
        return ("row", count, _item(reader))
    return _item(reader)


def _item(reader):
    if reader.ahead() in WORDS:
        return _word(reader)
    return ("struct", reader.take_name())


def _word(reader):
    size, signed = WORDS[reader.ahead()]
    reader.expect(reader.ahead())
    return ("word", size, signed, reader.accept("big"))


def _bits(reader):
    if reader.ahead() not in BIT_WORDS:
        reader.refuse()
    _, size, _, big = _word(reader)
    reader.expect("{")
    slots = [_slot(reader)]
    while reader.accept(","):
        slots.append(_slot(reader))
    reader.expect("}")
    return ("bits", size, big, tuple(slots))


def _slot(reader):
    """Reads the name and the width of a bit field."""
    name = reader.take_name()
    return name, reader.take_number(1, GREATEST_WIDTH)


def _union(reader):
    reader.expect("of")
    names = [reader.take_name()]
    while reader.accept(","):
        names.append(reader.take_name())
    return ("one", tuple(names))
