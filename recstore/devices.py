"""Devices, which work on words of records step by step, wherever these are then (d2, d3)."""

from recstore.blocks import LIST_BLOCK, UNIT, find_block
from recstore.layouts import layout
from recstore.spots import list_index
from recstore.stored import find_record


def place(schema, data, number, list_name, offset):
    """The offset in data of a word of a record that is named as recstore.leases names it."""
    name, version, body = find_record(schema, data, number)
    if list_name == "":
        return body + offset
    index = list_index(layout(schema, name, version), list_name)
    return find_block(data, number, LIST_BLOCK + index) + UNIT + offset


class Device:
    """A device that is busy with a work; its words are (number, name of the list or "", offset) or None."""

    def __init__(self, work, source, target):
        self.work = work
        self.source = source
        self.target = target

    def step(self, schema, data):
        """Makes the next step of the work: ("going",) or ("done", what it tells). Raises OutOfRange."""
        return self.work.step(data, _present(schema, data, self.source), _present(schema, data, self.target))

    def finish(self, schema, data):
        """Writes what is left of the work if something was written."""
        self.work.finish(data, _present(schema, data, self.source), _present(schema, data, self.target))


def _present(schema, data, word):
    """The present offset of a word in data, or None for None."""
    if word is None:
        return None
    number, list_name, offset = word
    return place(schema, data, number, list_name, offset)
