"""Journals: the calls of a store as numbers (j1)."""

from recstore.errors import BadJournal
from recstore.integers import read_word, write_word

START = "start"
# For each call, in the order of their numbers from 1 on, its name and the kinds of its arguments: i an integer,
# t a text (I and T: or None), b whether something holds.
CALLS = (
    ("create", "ti"), ("put", "iti"), ("select", "itT"), ("push", "itI"), ("pop", "it"), ("delete", "i"),
    ("upgrade", "ii"), ("grow", "i"), ("push_together", ""), ("checkpoint", ""), ("back", ""), ("commit", ""),
    ("device", ""), ("lease", "iitb"), ("release", "i"), ("begin", "ititIIT"), ("step", "i"), ("abort", "i"),
)
# All characters that texts can have, but for the newline.
SIGNS = (
    " !\"#$&'()*+,-./0123456789:;<=>?@"
    "ABCDEFGHIJKLMNOPQRSTUVWXYZ[\\]^_`abcdefghijklmnopqrstuvwxyz{|}~"
)
COUNT_SIZE = 2
INTEGER_SIZE = 4
NO_INTEGER = 2
NO_TEXT = 255


class EntryReader:
    """Reads the numbers of an entry one by one; place is that of the entry in the journal."""

    def __init__(self, numbers, place):
        self.codes = numbers
        self.place = place
        self.at = 0
        self.signs = {ord(sign): sign for sign in SIGNS + "\n"}
        if not are_bytes(numbers):
            self.refuse()

    def refuse(self):
        """Refuses the entry."""
        raise BadJournal(self.place)

    def left(self):
        """How many numbers are left."""
        return len(self.codes) - self.at

    def take(self, many):
        """The next numbers; the entry is refused if it has fewer."""
        if many > self.left():
            self.refuse()
        self.at += many
        return self.codes[self.at - many:self.at]

    def take_text(self, many):
        """A text of this many characters."""
        found = self.take(many)
        if not all([code in self.signs for code in found]):
            self.refuse()
        return "".join([self.signs[code] for code in found])

    def take_argument(self, kind):
        """An argument of a kind (CALLS)."""
        first = self.take(1)[0]
        if (kind == "I" and first == NO_INTEGER) or (kind == "T" and first == NO_TEXT):
            return None
        if kind in ("t", "T") and first != NO_TEXT:
            return self.take_text(first)
        if kind in ("t", "T") or first > 1:
            self.refuse()
        if kind == "b":
            return first == 1
        value = read_word(self.take(INTEGER_SIZE), 0, INTEGER_SIZE)
        if first == 1 and value == 0:
            self.refuse()
        return value if first == 0 else -value


def write_entry(name, arguments):
    """The numbers of the entry of a call; that of the start has the arguments (size, text)."""
    if name == START:
        size, text = arguments
        numbers = [0] + _digits(size, COUNT_SIZE) + [ord(sign) for sign in text]
    else:
        code = [call[0] for call in CALLS].index(name) + 1
        numbers = [code]
        for kind, argument in zip(CALLS[code - 1][1], arguments):
            numbers.extend(_argument_numbers(kind, argument))
    return _digits(len(numbers), COUNT_SIZE) + numbers


def read_journal(numbers):
    """The list of the triples (name, arguments, place behind) of all whole entries; raises BadJournal."""
    found = []
    place = 0
    while place + COUNT_SIZE <= len(numbers):
        begin = place + COUNT_SIZE
        if not are_bytes(numbers[place:begin]):
            raise BadJournal(place)
        behind = begin + read_word(numbers, place, COUNT_SIZE)
        if behind > len(numbers):
            break
        name, arguments = _read_entry(EntryReader(numbers[begin:behind], place))
        found.append((name, arguments, behind))
        place = behind
    if not found:
        raise BadJournal(0)
    return found


def are_bytes(numbers):
    """Whether all numbers are from 0 to 255."""
    return all([0 <= number <= 255 for number in numbers])


def _read_entry(reader):
    """The pair (name, arguments) of an entry."""
    code = reader.take(1)[0]
    # The first entry, and no other one, is a start.
    if (code == 0) != (reader.place == 0) or code > len(CALLS):
        reader.refuse()
    if code == 0:
        size = read_word(reader.take(COUNT_SIZE), 0, COUNT_SIZE)
        return START, (size, reader.take_text(reader.left()))
    name, kinds = CALLS[code - 1]
    arguments = tuple([reader.take_argument(kind) for kind in kinds])
    if reader.left() > 0:
        reader.refuse()
    return name, arguments


def _argument_numbers(kind, argument):
    """The numbers of an argument of a kind (CALLS)."""
    if kind == "b":
        return [1 if argument else 0]
    if argument is None:
        return [NO_INTEGER if kind == "I" else NO_TEXT]
    if kind in ("t", "T"):
        return [len(argument)] + [ord(sign) for sign in argument]
    return [1 if argument < 0 else 0] + _digits(abs(argument), INTEGER_SIZE)


def _digits(number, size):
    """The bytes of a number, that of its lowest digit first."""
    content = [0] * size
    write_word(content, 0, size, number)
    return content
