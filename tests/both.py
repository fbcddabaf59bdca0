"""A store and a table that are made and called together: all answers and refusals are the same (t1)."""

from recstore.errors import OutOfRange, RecordError
from recstore.images import check_image
from recstore.journal import write_entry
from recstore.layouts import layout, types
from recstore.schema import parse_schema
from recstore.store import Store, restore
from recstore.table import Table


def outcome(call, *arguments):
    """("told", answer), or (name of the error, reason or None)."""
    try:
        return "told", call(*arguments)
    except RecordError as error:
        return type(error).__name__, getattr(error, "reason", None)


class Both:
    def __init__(self, text, size, slow=False):
        """If slow, each call is followed by a look at all that a store and a table tell."""
        self.text = text
        self.schema = parse_schema(text)
        self.store = Store(text, size)
        self.table = Table(text, size)
        self.devices = 0
        self.slow = slow

    def call(self, name, *arguments):
        """The outcome of a call."""
        journal, data = self.store.journal(), list(self.store.records.data)
        told = outcome(getattr(self.store, name), *arguments)
        same = outcome(getattr(self.table, name), *arguments)
        assert told == same, (name, arguments, told, same)
        if told[0] == "told":
            self.devices += name == "device"
        is_told = told[0] == "told" or (name == "step" and told[0] == OutOfRange.__name__)
        entry = write_entry(name, arguments) if is_told else []
        assert self.store.journal() == journal + entry, (name, arguments)
        if told[0] != "told":
            assert self.store.records.data == data, (name, arguments)
        if self.slow:
            self.compare()
        return told

    def do(self, name, *arguments):
        """The answer of a call that is not refused."""
        told = self.call(name, *arguments)
        assert told[0] == "told", (name, arguments, told)
        return told[1]

    def refused(self, name, *arguments):
        """The reason for which a call is refused, or the name of the error if it has none."""
        told = self.call(name, *arguments)
        assert told[0] != "told", (name, arguments, told)
        return told[1] or told[0]

    def ask(self, name, *arguments):
        """The outcome of a question."""
        told = outcome(getattr(self.store, name), *arguments)
        same = outcome(getattr(self.table, name), *arguments)
        assert told == same, (name, arguments, told, same)
        return told

    def told(self, name, *arguments):
        """The answer to a question that is not refused."""
        told = self.ask(name, *arguments)
        assert told[0] == "told", (name, arguments, told)
        return told[1]

    def compare(self):
        """All that can be asked of both is the same; the image is right, and is refused if and only if it must be."""
        assert questions(self.store, self.schema, self.devices) == questions(self.table, self.schema, self.devices)
        self.compare_image()

    def compare_image(self):
        exclusive = any(word[-1] for lease in self.store.held() for word in self.store.words(lease))
        told = outcome(self.store.image)
        if exclusive:
            assert told == ("Leased", None)
        else:
            assert told[0] == "told" and check_image(self.schema, told[1]) is None, check_image(self.schema, told[1])

    def compare_restored(self):
        """A store that is restored from the journal is what this one is; that store."""
        again = restore(self.store.journal())
        assert inner(again, self.schema, self.devices) == inner(self.store, self.schema, self.devices)
        return again


def questions(store, schema, devices):
    """All that can be asked of a store or a table, as a dict from the question to the outcome."""
    found = {name: outcome(getattr(store, name)) for name in ("numbers", "next_number", "size", "used", "held")}
    for device in range(devices + 2):
        found["busy", device] = outcome(store.busy, device)
    for number in store.numbers():
        found["kind", number] = outcome(store.kind, number)
        name, stored = store.kind(number)
        last = dict(types(schema))[name]
        for version in range(stored, last + 1):
            shape = layout(schema, name, version)
            found["values", number, version] = outcome(store.values, number, version, "")
            for field in shape[2]:
                found["value", number, version, field[0]] = outcome(store.value, number, version, field[0])
            for list_name, _, _, fields in shape[3]:
                found["length", number, version, list_name] = outcome(store.length, number, version, list_name)
                found["values", number, version, list_name] = outcome(store.values, number, version, list_name)
                for index in range(store.length(number, version, list_name)):
                    item = list_name + "." + str(index)
                    found["values", number, version, item] = outcome(store.values, number, version, item)
    return found


def inner(store, schema, devices):
    """All that can be asked of a store."""
    found = questions(store, schema, devices)
    found["blocks"] = store.blocks()
    found["image"] = outcome(store.image)
    found["journal"] = store.journal()
    for number in store.numbers():
        found["bytes", number] = store.bytes_of(number)
    for lease in store.held():
        found["words", lease] = store.words(lease)
    return found
