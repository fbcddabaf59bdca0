"""The records of a store, in one array of bytes."""

from recstore.blocks import LIST_BLOCK, block_kind, blocks, grow, push_together, used
from recstore.cells import Cells
from recstore.devices import Device
from recstore.lists import add_item, drop_item, fix_headers
from recstore.plans import Plans
from recstore.records import delete, new_record, upgrade
from recstore.steps import Work
from recstore.stored import find_record
from recstore.views import View, slot_told


class ByteRecords:
    """Records in bytes. recstore.plainrecords has a class with the same methods, without bytes."""

    def __init__(self, schema, data):
        self.schema = schema
        self.data = data
        self.plans = Plans(schema)

    def told(self, number):
        """(name, version as which it is stored) of a record, or None."""
        found = find_record(self.schema, self.data, number)
        return None if found is None else found[:2]

    def numbers(self):
        """The ascending list of the numbers of all records."""
        own = [block for block in blocks(self.data) if block[3] < LIST_BLOCK]
        return sorted([block[2] for block in own if block_kind(self.data, block[0]) != 0])

    def view(self, number, version):
        """The view of a record, read as a version; for None, as the one that is stored."""
        plan = self.plans.planned(self.told(number), version)
        return View(plan, Cells(self.data, number, plan))

    def create(self, name, version, number):
        """A new record; raises Full."""
        new_record(self.schema, self.data, name, version, number)

    def push(self, view, index, value):
        """Adds an element to a list; how many there are then. Raises Full."""
        return add_item(view, index, value)

    def shorten(self, view, index):
        """Takes the last element of a list away; how many there are then."""
        return drop_item(view, index)

    def delete(self, number):
        """Takes a record away."""
        delete(self.schema, self.data, number)

    def upgrade(self, number, version):
        """Stores a record as a newer version; raises Full."""
        upgrade(self.schema, self.data, number, version)

    def grow(self, size):
        """Makes room for this many bytes in all."""
        grow(self.data, size)

    def push_together(self):
        """Moves all blocks to the beginning."""
        push_together(self.data)
        fix_headers(self.schema, self.data)

    def size(self):
        """How many bytes there are."""
        return len(self.data)

    def used(self):
        """How many bytes the blocks of records have."""
        return used(self.data)

    def snapshot(self):
        """What go_back needs to put all records back as they are now."""
        return list(self.data)

    def go_back(self, snapshot):
        """Puts all records back as they were."""
        self.data = list(snapshot)

    def new_work(self, kind, source, target, value):
        """A work on fields that are told as (view, spot) or None."""
        work = Work(kind, slot_told(source), slot_told(target), value)
        return Device(work, _word(source), _word(target))

    def step(self, work):
        """Makes the next step of a work. Raises OutOfRange."""
        return work.step(self.schema, self.data)

    def finish(self, work):
        """Does what is left of a work if it has written something."""
        work.finish(self.schema, self.data)


def _word(told):
    """The word of a field, as Device takes it."""
    if told is None:
        return None
    view, spot = told
    list_name, offset, _ = view.word(spot)
    return view.cells.number, list_name, offset
