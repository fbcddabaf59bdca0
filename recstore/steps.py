"""Works: deeds on one or two slots, done byte by byte (s1 to s3).

A slot is told as (size, big, first, width, signed), without the offset of its
word: this is told at each step, since words can move in between.
"""

from recstore.errors import OutOfRange
from recstore.integers import bounds, read_slot, write_slot


class Work:
    """A work that gets, sets, adds to or exchanges one slot, or copies one to another."""

    def __init__(self, kind, source, target, value):
        self.deed = kind
        self.source = source
        self.target = target
        self.given = value
        self.turns = phases(kind, source, target)
        self.made = 0
        # The bytes of the words of source and target as they were read, and those that are to be written.
        self.seen = []
        self.kept = []
        self.fresh = []
        # The integer that is written, and what the last step tells: other than these only once the source was read.
        self.new = value
        self.answer = None

    def step(self, data, source_offset, target_offset):
        """Makes the next step, the words being at these offsets: ("going",) or ("done", what it tells).

        Raises OutOfRange; then the work is over.
        """
        first, second, _ = self.turns
        place = self.made
        self.made += 1
        if place < first:
            self.seen.append(data[source_offset + place])
            if self.made == first:
                self._find_outcome()
        elif place < first + second:
            self.kept.append(data[target_offset + place - first])
        else:
            self._write(data, source_offset if self.target is None else target_offset, place - first - second)
        return ("going",) if self.made < self.total() else ("done", self.answer)

    def finish(self, data, source_offset, target_offset):
        """Writes what is left if something was written."""
        first, second, _ = self.turns
        while first + second < self.made < self.total():
            self.step(data, source_offset, target_offset)

    def total(self):
        """The number of the steps."""
        return sum(self.turns)

    def _find_outcome(self):
        """Works out what is written and told, from the word of the source."""
        size, big, low, width, signed = self.source
        number = read_slot(self.seen, 0, size, big, low, width, signed)
        self.new, self.answer = outcome(self.deed, number, self.given)
        if self.new is not None and not fits(written_slot(self.source, self.target), self.new):
            self.made = self.total()
            raise OutOfRange()

    def _write(self, data, offset, place):
        """Writes one byte of the word that is at this offset."""
        if place == 0:
            self._make_fresh()
        data[offset + place] = self.fresh[place]

    def _make_fresh(self):
        """Works out the bytes that are to be written."""
        size, big, low, width, signed = written_slot(self.source, self.target)
        read = self.seen if self.target is None else self.kept
        # A target that is the whole word was not read: none of its bits stays.
        self.fresh = list(read) if read else [0] * size
        write_slot(self.fresh, 0, size, big, low, width, signed, self.new)


def phases(kind, source, target):
    """How many steps read the first word, read the word that is written then, and write it (s1)."""
    first = 0 if source is None else source[0]
    if kind == "get":
        return first, 0, 0
    second = 0 if target is None or _is_whole(target) else target[0]
    return first, second, written_slot(source, target)[0]


def outcome(kind, seen, given):
    """(integer that is written or None, what the last step tells), from the integers that were read and given."""
    if kind == "set":
        return given, None
    if kind == "add":
        return seen + given, seen + given
    if kind == "exchange":
        return given, seen
    return (seen if kind == "copy" else None), seen


def written_slot(source, target):
    """The slot that is written by a work that writes one."""
    return source if target is None else target


def fits(slot, value):
    """Whether a slot can hold an integer."""
    least, greatest = bounds(slot[3], slot[4])
    return least <= value <= greatest


def _is_whole(slot):
    """Whether a slot is its whole word (s3)."""
    return slot[3] == 8 * slot[0]
