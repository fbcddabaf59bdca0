"""Records, read as the versions as which they are stored or as newer ones (v2, r3).

Where the stored values are is known to the cells of a record alone: those of
recstore.cells have them in bytes, those of recstore.plaincells as integers.
Both read and write the value of a stored spot, tell how long a stored list
is, name the words of stored spots and the headers of stored lists, and tell
of which type the record with a number is.
"""

from recstore.errors import BadField
from recstore.paths import field_at
from recstore.spots import spot_at, spot_fields, spot_path, spots


class View:
    """A record read as a version; it is right until blocks move or the record is stored in another way."""

    def __init__(self, plan, cells):
        self.plan = plan
        self.cells = cells
        self.layout = plan.layout

    def counts(self):
        """The numbers of elements of the lists."""
        return [0 if index is None else self.cells.length_of(index) for index in self.plan.lists]

    def spots(self, path):
        """The spots to which a path leads; raises BadField."""
        return spots(self.layout, self.counts(), path)

    def active_spots(self, path):
        """The spots of the active fields to which a path leads; raises BadField, also if all are inactive."""
        found = self.spots(path)
        active = [spot for spot in found if self.active(spot)]
        if found and not active:
            raise BadField("not active")
        return active

    def spot(self, path):
        """The spot of one field; raises BadField."""
        return spot_at(self.layout, self.counts(), path)

    def value(self, spot):
        """The value of the field at a spot."""
        told, found = self.plan.origin(spot)
        return found if told == "initial" else self.shown(spot, self.cells.read(found))

    def shown(self, spot, stored):
        """What a stored integer of the field at a spot is read as: a reference to nothing as 0."""
        return 0 if spot[2][7] == "reference" and not self.refers(spot, stored) else stored

    def pairs(self, found):
        """The list of the pairs (path, value) of spots."""
        return [(spot_path(self.layout, spot), self.value(spot)) for spot in found]

    def tags(self, spot):
        """The list of the pairs (spot of a tag, number) of the conditions of the field at a spot."""
        index, item, field = spot
        fields = spot_fields(self.layout, index)
        return [((index, item, field_at(fields, tag)), number) for tag, number in field[8]]

    def active(self, spot):
        """Whether the field at a spot is active."""
        return all([self.value(tag) == number for tag, number in self.tags(spot)])

    def refers(self, spot, number):
        """Whether there is a record with this number of the type to which the reference at a spot refers."""
        return self.cells.name_of(number) == self.plan.kind(spot)[1]

    def word(self, spot):
        """The word from which the field at a spot is read, as its cells name it, or None for an initial value."""
        told, found = self.plan.origin(spot)
        return None if told == "initial" else self.cells.word(found)


def slot_told(told):
    """The slot (recstore.steps) of a field that is told as (view, spot); None for None."""
    return None if told is None else told[1][2][2:7]
