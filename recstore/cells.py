"""The stored values of records in the bytes of a store."""

from recstore.blocks import LIST_BLOCK, UNIT, find_block
from recstore.fields import read_field, write_field
from recstore.integers import read_word
from recstore.layouts import LIST_HEADER, size_of
from recstore.plans import Plan
from recstore.stored import find_record
from recstore.views import View


class Cells:
    """The cells (recstore.views) of a record in bytes; they are right for as long as no block moves."""

    def __init__(self, data, number, plan):
        self.data = data
        self.number = number
        self.schema = plan.schema
        self.layout = plan.stored_layout
        self.body = find_record(plan.schema, data, number)[2]
        self.starts = [self._list_start(index) for index in range(len(self.layout[3]))]

    def length_of(self, index):
        """How many elements a list has."""
        return read_word(self.data, self.body + self.layout[3][index][1], 2)

    def read(self, spot):
        """The stored integer at a spot."""
        return read_field(self.data, self._start(spot), spot[2])

    def write(self, spot, value):
        """Stores an integer at a spot."""
        write_field(self.data, self._start(spot), spot[2], value)

    def select(self, spot, kind, number):
        """Selects the alternative with this number of the union at a spot, whose type is given."""
        offset = self._start(spot) + spot[2][1]
        size = size_of(self.schema, kind)
        self.data[offset:offset + size] = [0] * size
        self.data[offset] = number

    def word(self, spot):
        """The word of a spot: (name of the list or "", offset from the first byte of what holds it, size)."""
        index, _, field = spot
        name = "" if index is None else self.layout[3][index][0]
        return name, self._ahead(spot) + field[1], field[2]

    def header(self, index):
        """The word that is the header of a list, likewise."""
        return "", self.layout[3][index][1], LIST_HEADER

    def name_of(self, number):
        """The type of the record with this number, or None if there is none."""
        found = find_record(self.schema, self.data, number)
        return None if found is None else found[0]

    def stored_items(self, index):
        """The bytes of the elements of a list, as they are: a reference to nothing stays as it is (r5)."""
        many = self.length_of(index) * self.layout[3][index][2]
        return self.data[self.starts[index]:self.starts[index] + many] if many else []

    def _start(self, spot):
        """Where in data that begins from which the offset of the field at a spot counts."""
        start = self.body if spot[0] is None else self.starts[spot[0]]
        return start + self._ahead(spot)

    def _ahead(self, spot):
        """How many bytes of elements are ahead of the one of a spot."""
        return 0 if spot[0] is None else spot[1] * self.layout[3][spot[0]][2]

    def _list_start(self, index):
        """Where in data the elements of a list begin, or None if there are none."""
        offset = find_block(self.data, self.number, LIST_BLOCK + index)
        return None if offset is None else offset + UNIT


def open_view(schema, data, number, version):
    """The view of a record in bytes, read as a version; for None, as the one that is stored."""
    name, stored, _ = find_record(schema, data, number)
    plan = Plan(schema, name, stored if version is None else version, stored)
    return View(plan, Cells(data, number, plan))
