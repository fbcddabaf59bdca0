"""The store: records in one array of bytes, with an image and a journal (t2, i1, i3, j1, j2)."""

from recstore.bench import Bench
from recstore.blocks import blocks, empty
from recstore.byterecords import ByteRecords
from recstore.desk import Desk, check_size
from recstore.errors import BadImage, BadJournal, OutOfRange, RecordError
from recstore.images import check_image, read_image, write_image
from recstore.journal import START, read_journal, write_entry
from recstore.schema import parse_schema

KINDS = ("get", "set", "add", "exchange", "copy")
BEGIN = "begin"
STEP = "step"


class Store:
    """A store of records; it raises BadSchema and BadArgument when it is made."""

    def __init__(self, text, size):
        schema = parse_schema(text)
        check_size(size)
        self.fill(schema, empty(size), 1)
        self.entries = write_entry(START, (size, text))

    def fill(self, schema, data, following):
        """Begins with these bytes and this number of the next record; nothing is told of this or of later calls."""
        self.records = ByteRecords(schema, data)
        self.bench = Bench(self.records)
        self.desk = Desk(schema, self.records, self.bench.leases, following)
        self.entries = None

    def _tell(self, answer, name, *arguments):
        """Puts a call into the journal and passes its answer on; a call that is refused raises ahead of this."""
        if self.entries is not None:
            self.entries.extend(write_entry(name, arguments))
        return answer

    def create(self, name, version):
        """A new record; its number."""
        return self._tell(self.desk.create(name, version), "create", name, version)

    def put(self, number, path, value):
        """Sets a field."""
        return self._tell(self.desk.put(number, path, value), "put", number, path, value)

    def select(self, number, path, name):
        """Selects an alternative, or none for None."""
        return self._tell(self.desk.select(number, path, name), "select", number, path, name)

    def push(self, number, name, value):
        """Adds an element to a list; how many there are then."""
        return self._tell(self.desk.push(number, name, value), "push", number, name, value)

    def pop(self, number, name):
        """Takes the last element of a list away; how many there are then."""
        return self._tell(self.desk.shorten(number, name), "pop", number, name)

    def delete(self, number):
        """Takes a record away."""
        return self._tell(self.desk.delete(number), "delete", number)

    def upgrade(self, number, version):
        """Stores a record as a newer version."""
        return self._tell(self.desk.upgrade(number, version), "upgrade", number, version)

    def grow(self, size):
        """Makes room for this many bytes in all."""
        return self._tell(self.desk.grow(size), "grow", size)

    def push_together(self):
        """Moves all blocks to the beginning."""
        return self._tell(self.records.push_together(), "push_together")

    def checkpoint(self):
        """Makes a checkpoint; how many there are then."""
        return self._tell(self.desk.checkpoint(), "checkpoint")

    def back(self):
        """Goes back to the last checkpoint; how many there are then."""
        return self._tell(self.desk.back(), "back")

    def commit(self):
        """Lets the last checkpoint go; how many there are then."""
        return self._tell(self.desk.commit(), "commit")

    def device(self):
        """A new device; its number."""
        return self._tell(self.bench.device(), "device")

    def lease(self, device, number, path, exclusive):
        """A lease; its number."""
        answer = self.bench.lease(device, number, path, exclusive)
        return self._tell(answer, "lease", device, number, path, exclusive)

    def release(self, lease):
        """Ends a lease."""
        return self._tell(self.bench.release(lease), "release", lease)

    def begin(self, device, kind, number, path, value, other, other_path):
        """Begins a work."""
        self.bench.begin(device, kind, number, path, value, other, other_path)
        self._tell(None, "begin", device, kind, number, path, value, other, other_path)

    def step(self, device):
        """One step of a device: ("idle",), ("going",) or ("done", what it tells)."""
        try:
            answer = self.bench.step(device)
        except OutOfRange:
            # A step that ends its work so is no call that was refused.
            self._tell(None, "step", device)
            raise
        return self._tell(answer, "step", device)

    def abort(self, device):
        """Ends the work and the leases of a device."""
        return self._tell(self.bench.abort(device), "abort", device)

    def value(self, number, version, path):
        """The value of a field of a record, read as a version."""
        return self.desk.value(number, version, path)

    def values(self, number, version, path):
        """The list of the pairs (path, value) of the active fields to which a path leads."""
        return self.desk.pairs(number, version, path)

    def length(self, number, version, name):
        """How many elements a list has."""
        return self.desk.length(number, version, name)

    def kind(self, number):
        """(type, version as which it is stored) of a record."""
        return self.desk.kind(number)

    def numbers(self):
        """The ascending list of the numbers of all records."""
        return self.records.numbers()

    def next_number(self):
        """The number of the next record."""
        return self.desk.following

    def size(self):
        """How many bytes there are."""
        return self.records.size()

    def used(self):
        """How many bytes the blocks have that are not free."""
        return self.records.used()

    def busy(self, device):
        """Whether a device works."""
        return self.bench.busy(device)

    def words(self, lease):
        """The words of a lease."""
        return self.bench.leases.told(lease)[2]

    def held(self):
        """The ascending list of the numbers of the leases that are held."""
        return self.bench.leases.numbers()

    def blocks(self):
        """The list of the blocks: (offset, size, number of the record, version or list)."""
        return blocks(self.records.data)

    def image(self):
        """The image of the store; raises Leased."""
        self.bench.leases.check_shared()
        return write_image(self.records.data, self.desk.following)

    def bytes_of(self, number):
        """The list of the stored bytes of a record; raises BadArgument."""
        self.desk.kind(number)
        view = self.records.view(number, None)
        return self.records.data[view.cells.body:view.cells.body + view.layout[0]]

    def journal(self):
        """The list of the numbers of the journal."""
        return [] if self.entries is None else list(self.entries)


def open_image(text, image):
    """The store that is told by an image; nothing is told of its calls. Raises BadSchema, BadImage."""
    schema = parse_schema(text)
    fault = check_image(schema, image)
    if fault is not None:
        offset, reason = fault
        raise BadImage(offset, reason)
    data, following = read_image(image)
    store = Store(text, len(data))
    store.fill(schema, data, following)
    return store


def restore(numbers):
    """The store that is told by a journal; raises BadJournal."""
    entries = read_journal(numbers)
    _, (size, text), place = entries[0]
    try:
        store = Store(text, size)
    except RecordError:
        raise BadJournal(0) from None
    calls = _calls(store)
    for name, arguments, behind in entries[1:]:
        if name == BEGIN and not _is_work(arguments):
            raise BadJournal(place)
        call = calls[name]
        try:
            call(*arguments)
        except OutOfRange:
            if name != STEP:
                raise BadJournal(place) from None
        except RecordError:
            raise BadJournal(place) from None
        place = behind
    return store


def _calls(store):
    """The calls of a store, by their names in a journal."""
    return {
        "create": store.create, "put": store.put, "select": store.select, "push": store.push,
        "pop": lambda number, name: store.pop(number, name), "delete": store.delete, "upgrade": store.upgrade,
        "grow": store.grow, "push_together": store.push_together, "checkpoint": store.checkpoint, "back": store.back,
        "commit": store.commit, "device": store.device, "lease": store.lease, "release": store.release,
        BEGIN: store.begin, STEP: lambda device: store.step(device), "abort": store.abort,
    }


def _is_work(arguments):
    """Whether there is a work that begins with these arguments, some of which are None for each kind (t2)."""
    _, kind, _, _, value, other, other_path = arguments
    if kind not in KINDS or (value is None) != (kind in ("get", "copy")):
        return False
    return (other is not None) == (kind == "copy") and (other_path is not None) == (kind == "copy")
