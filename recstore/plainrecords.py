"""The records of a table: values by their paths, without bytes (t1)."""

from recstore.blocks import UNIT, block_units
from recstore.errors import Full
from recstore.layouts import declaration
from recstore.plaincells import PlainCells, PlainRecord
from recstore.plainworks import PlainWork
from recstore.plans import Plans
from recstore.views import View


class PlainRecords:
    """Records as values. recstore.byterecords has a class with the same methods, in bytes."""

    def __init__(self, schema, room):
        self.schema = schema
        self.room = room
        self.records = {}
        self.plans = Plans(schema)

    def told(self, number):
        """(name, version as which it is stored) of a record, or None."""
        if number not in self.records:
            return None
        record = self.records[number]
        return record.name, record.version

    def numbers(self):
        """The ascending list of the numbers of all records."""
        return sorted(self.records)

    def view(self, number, version):
        """The view of a record, read as a version; for None, as the one that is stored."""
        plan = self.plans.planned(self.told(number), version)
        return View(plan, PlainCells(self.records, number, plan))

    def create(self, name, version, number):
        """A new record; raises Full."""
        layout = self._layout(name, version)
        own = {field[0]: 0 for field in layout[2]}
        for field_name, _, _, initial in declaration(self.schema, name, version):
            if initial is not None:
                own[field_name] = initial
        made = PlainRecord(name, version, own, [[] for _ in layout[3]])
        self._check_room(0, self._taken(made))
        self.records[number] = made

    def push(self, view, index, value):
        """Adds an element to a list; how many there are then. Raises Full."""
        items = view.cells.record.lists[index]
        _, _, stride, fields = view.layout[3][index]
        self._check_room(_list_bytes(stride, len(items)), _list_bytes(stride, len(items) + 1))
        # A value is pushed to words alone, and then the one field of the element.
        items.append({field[0]: 0 if value is None else value for field in fields})
        return len(items)

    def shorten(self, view, index):
        """Takes the last element of a list away; how many there are then."""
        items = view.cells.record.lists[index]
        items.pop()
        return len(items)

    def delete(self, number):
        """Takes a record away."""
        del self.records[number]

    def upgrade(self, number, version):
        """Stores a record as a newer version; raises Full."""
        view = self.view(number, version)
        own = _held(view, view.spots(""), 1)[0]
        lists = [_held(view, view.spots(entry[0]), many) for entry, many in zip(view.layout[3], view.counts())]
        made = PlainRecord(view.plan.name, version, own, lists)
        self._check_room(self._taken(self.records[number]), self._taken(made))
        self.records[number] = made

    def grow(self, size):
        """Makes room for this many bytes in all."""
        self.room = size

    def push_together(self):
        """Nothing: there are no blocks that could move."""

    def size(self):
        """How many bytes a store would have."""
        return self.room

    def used(self):
        """How many bytes the blocks of records would have."""
        return sum([self._taken(record) for record in self.records.values()])

    def snapshot(self):
        """What go_back needs to put all records back as they are now."""
        return self.room, {number: record.copied() for number, record in self.records.items()}

    def go_back(self, snapshot):
        """Puts all records back as they were."""
        self.room, self.records = snapshot

    def new_work(self, kind, source, target, value):
        """A work on fields that are told as (view, spot) or None."""
        return PlainWork(kind, source, target, value)

    def step(self, work):
        """Makes the next step of a work. Raises OutOfRange."""
        return work.step()

    def finish(self, work):
        """Does what is left of a work if it has written something."""
        work.finish()

    def _layout(self, name, version):
        """The layout of a version of a record type."""
        return self.plans.planned((name, version), None).layout

    def _taken(self, record):
        """How many bytes the blocks of a record would have."""
        layout = self._layout(record.name, record.version)
        lists = [_list_bytes(entry[2], len(items)) for entry, items in zip(layout[3], record.lists)]
        return UNIT * block_units(layout[0]) + sum(lists)

    def _check_room(self, fewer, more):
        """Raises Full if there is no room for more bytes when fewer are given back (r7)."""
        if self.used() - fewer + more > self.room:
            raise Full()


def _list_bytes(stride, many):
    """How many bytes the block of a list with this many elements would have."""
    return UNIT * block_units(stride * many) if many else 0


def _held(view, found, many):
    """The values at the spots of this many elements, or of the record itself, by their paths; inactive ones are 0."""
    held = [{} for _ in range(many)]
    for spot in found:
        _, item, field = spot
        held[item or 0][field[0]] = view.value(spot) if view.active(spot) else 0
    return held
