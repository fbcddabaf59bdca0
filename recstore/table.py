"""The plain table: what a store means, without bytes, offsets and steps (t1, t2)."""

from recstore.bench import Bench
from recstore.desk import Desk, check_size
from recstore.plainrecords import PlainRecords
from recstore.schema import parse_schema


class Table:
    """A table of records; it raises BadSchema and BadArgument when it is made."""

    def __init__(self, text, size):
        schema = parse_schema(text)
        check_size(size)
        self.records = PlainRecords(schema, size)
        self.bench = Bench(self.records)
        self.desk = Desk(schema, self.records, self.bench.leases, 1)

    def create(self, name, version):
        """A new record; its number."""
        return self.desk.create(name, version)

    def put(self, number, path, value):
        """Sets a field."""
        self.desk.put(number, path, value)

    def select(self, number, path, name):
        """Selects an alternative, or none for None."""
        self.desk.select(number, path, name)

    def push(self, number, name, value):
        """Adds an element to a list; how many there are then."""
        return self.desk.push(number, name, value)

    def pop(self, number, name):
        """Takes the last element of a list away; how many there are then."""
        return self.desk.shorten(number, name)

    def delete(self, number):
        """Takes a record away."""
        self.desk.delete(number)

    def upgrade(self, number, version):
        """Stores a record as a newer version."""
        self.desk.upgrade(number, version)

    def grow(self, size):
        """Makes room for this many bytes in all."""
        self.desk.grow(size)

    def push_together(self):
        """Changes nothing in a table."""
        self.records.push_together()

    def checkpoint(self):
        """Makes a checkpoint; how many there are then."""
        return self.desk.checkpoint()

    def back(self):
        """Goes back to the last checkpoint; how many there are then."""
        return self.desk.back()

    def commit(self):
        """Lets the last checkpoint go; how many there are then."""
        return self.desk.commit()

    def device(self):
        """A new device; its number."""
        return self.bench.device()

    def lease(self, device, number, path, exclusive):
        """A lease; its number."""
        return self.bench.lease(device, number, path, exclusive)

    def release(self, lease):
        """Ends a lease."""
        self.bench.release(lease)

    def begin(self, device, kind, number, path, value, other, other_path):
        """Begins a work."""
        self.bench.begin(device, kind, number, path, value, other, other_path)

    def step(self, device):
        """One step of a device: ("idle",), ("going",) or ("done", what it tells)."""
        return self.bench.step(device)

    def abort(self, device):
        """Ends the work and the leases of a device."""
        self.bench.abort(device)

    def value(self, number, version, path):
        """The value of a field of a record, read as a version."""
        return self.desk.value(number, version, path)

    def values(self, number, version, path):
        """The list of the pairs (path, value) of the active fields to which a path leads."""
        return self.desk.pairs(number, version, path)

    def length(self, number, version, name):
        """How many elements a list has."""
        return self.desk.length(number, version, name)

    def kind(self, number):
        """(type, version as which it is stored) of a record."""
        return self.desk.kind(number)

    def numbers(self):
        """The ascending list of the numbers of all records."""
        return self.records.numbers()

    def next_number(self):
        """The number of the next record."""
        return self.desk.following

    def size(self):
        """How many bytes there are."""
        return self.records.size()

    def used(self):
        """How many bytes records have."""
        return self.records.used()

    def busy(self, device):
        """Whether a device works."""
        return self.bench.busy(device)

    def held(self):
        """The ascending list of the numbers of the leases that are held."""
        return self.bench.leases.numbers()
