"""The calls and questions about records, in a store as in a table: their refusals in order, then the deeds (t2, t3)."""

from recstore.errors import BadArgument
from recstore.layouts import types
from recstore.refusals import (
    alternative_number, check_new_value, check_pop, check_push, readable_spot, settable_spot, stored_view, union_spot,
)
from recstore.spots import list_index

MOST_CHECKPOINTS = 4
LAST_NUMBER = 9999
LEAST_SIZE = 64
GREATEST_SIZE = 1024
SIZE_STEP = 8


class Desk:
    """Records (those of recstore.byterecords, or of recstore.plainrecords), on which leases can be held."""

    def __init__(self, schema, records, leases, following):
        self.versions = dict(types(schema))
        self.records = records
        self.leases = leases
        # The number of the next record.
        self.following = following
        self.checkpoints = []

    def create(self, name, version):
        """A new record; its number. Raises BadArgument, Full."""
        if name not in self.versions:
            raise BadArgument("type")
        if version < 1 or version > self.versions[name]:
            raise BadArgument("version")
        if self.following > LAST_NUMBER:
            raise BadArgument("numbers")
        self.records.create(name, version, self.following)
        self.following += 1
        return self.following - 1

    def put(self, number, path, value):
        """Sets a field; raises BadArgument, BadField, Leased, OutOfRange."""
        view = stored_view(self.records, number)
        spot = settable_spot(view, path)
        self.leases.check_writable(number, view.word(spot))
        check_new_value(view, spot, value)
        view.cells.write(spot, value)

    def select(self, number, path, name):
        """Selects an alternative, or none for None; raises BadArgument, BadField, Leased."""
        view = stored_view(self.records, number)
        spot = union_spot(view, path)
        self.leases.check_writable(number, view.word(spot))
        view.cells.select(spot, view.plan.kind(spot), alternative_number(view, spot, name))

    def push(self, number, name, value):
        """Adds an element to a list; how many there are then.

        Raises BadArgument, BadField, Leased, OutOfRange, Full.
        """
        view, index = self._writable_list(number, name)
        check_push(view, index, value)
        return self.records.push(view, index, value)

    def shorten(self, number, name):
        """Takes the last element of a list away; how many there are then. Raises BadArgument, BadField, Leased."""
        view, index = self._writable_list(number, name)
        check_pop(view, index)
        return self.records.shorten(view, index)

    def delete(self, number):
        """Takes a record away; raises BadArgument, Leased."""
        self.kind(number)
        self.leases.check_free(number)
        self.records.delete(number)

    def upgrade(self, number, version):
        """Stores a record as a newer version; raises BadArgument, Leased, Full."""
        name, stored = self.kind(number)
        if version <= stored or version > self.versions[name]:
            raise BadArgument("version")
        self.leases.check_free(number)
        self.records.upgrade(number, version)

    def grow(self, size):
        """Makes room for this many bytes in all; raises BadArgument."""
        if size <= self.records.size():
            raise BadArgument("size")
        check_size(size)
        self.records.grow(size)

    def checkpoint(self):
        """Makes a checkpoint; how many there are then. Raises BadArgument, Leased."""
        if len(self.checkpoints) >= MOST_CHECKPOINTS:
            raise BadArgument("checkpoint")
        self.leases.check_none()
        self.checkpoints.append(self.records.snapshot())
        return len(self.checkpoints)

    def back(self):
        """Puts all back as it was at the last checkpoint, which goes; how many there are then.

        Raises BadArgument, Leased.
        """
        self._check_checkpoint()
        self.leases.check_none()
        self.records.go_back(self.checkpoints.pop())
        return len(self.checkpoints)

    def commit(self):
        """Lets the last checkpoint go; how many there are then. Raises BadArgument."""
        self._check_checkpoint()
        self.checkpoints.pop()
        return len(self.checkpoints)

    def value(self, number, version, path):
        """The value of a field; raises BadArgument, BadField, Leased."""
        view = self._view(number, version)
        spot = readable_spot(view, path)
        self.leases.check_readable(number, view.word(spot))
        return view.value(spot)

    def pairs(self, number, version, path):
        """The list of the pairs (path, value) of active fields; raises BadArgument, BadField, Leased."""
        view = self._view(number, version)
        found = view.active_spots(path)
        for spot in found:
            self.leases.check_readable(number, view.word(spot))
        return view.pairs(found)

    def length(self, number, version, name):
        """How many elements a list has; raises BadArgument, BadField."""
        view = self._view(number, version)
        return view.counts()[list_index(view.layout, name)]

    def kind(self, number):
        """(type, version as which it is stored) of a record; raises BadArgument."""
        found = self.records.told(number)
        if found is None:
            raise BadArgument("record")
        return found

    def _view(self, number, version):
        """The view of a record read as a version; raises BadArgument."""
        name, stored = self.kind(number)
        if version < stored or version > self.versions[name]:
            raise BadArgument("version")
        return self.records.view(number, version)

    def _writable_list(self, number, name):
        """The view of a record as it is stored, and the index of a list whose header is not leased."""
        view = stored_view(self.records, number)
        index = list_index(view.layout, name)
        self.leases.check_writable(number, view.cells.header(index))
        return view, index

    def _check_checkpoint(self):
        """Raises BadArgument if there is no checkpoint."""
        if not self.checkpoints:
            raise BadArgument("checkpoint")


def check_size(size):
    """Raises BadArgument for what is no size of a store (c2)."""
    if size < LEAST_SIZE or size > GREATEST_SIZE or size % SIZE_STEP != 0:
        raise BadArgument("size")
