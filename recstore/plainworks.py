"""Works that happen as a whole, though they take as many steps as those in bytes (t1)."""

from recstore.errors import OutOfRange
from recstore.steps import fits, outcome, phases, written_slot
from recstore.views import slot_told


class PlainWork:
    """A work on fields of plain records, each told as (view, spot) or None.

    The leases of its device see to it that the views stay right until it ends.
    """

    def __init__(self, kind, source, target, value):
        self.deed = kind
        self.source = source
        self.target = target
        self.given = value
        self.turns = phases(kind, slot_told(source), slot_told(target))
        self.made = 0

    def step(self):
        """Makes the next step, the last of which does all: ("going",) or ("done", what it tells).

        Raises OutOfRange.
        """
        self.made += 1
        new, answer = self._outcome()
        if self.made == self.turns[0] and new is not None:
            if not fits(written_slot(slot_told(self.source), slot_told(self.target)), new):
                raise OutOfRange()
        if self.made < sum(self.turns):
            return ("going",)
        self._write(new)
        return ("done", answer)

    def finish(self):
        """Does all if a byte would be written by now."""
        if self.made > self.turns[0] + self.turns[1]:
            self._write(self._outcome()[0])

    def _outcome(self):
        """(integer that is written or None, what is told)."""
        seen = None
        if self.source is not None:
            view, spot = self.source
            seen = view.value(spot)
        return outcome(self.deed, seen, self.given)

    def _write(self, new):
        """Puts the integer into the field that is written, if one is."""
        if new is not None:
            view, spot = self.source if self.target is None else self.target
            view.cells.write(spot, new)
