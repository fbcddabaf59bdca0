"""The faults of the blocks of an image (i2, passes 2 to 5).

Offsets are those in the bytes of the store; a reason that is the empty text
tells that there is no fault.
"""

from recstore.blocks import LIST_BLOCK, UNIT, block_kind, block_size, block_units, blocks, find_block
from recstore.cells import open_view
from recstore.fields import mark_field
from recstore.integers import read_word
from recstore.layouts import LIST_HEADER, layout, types
from recstore.refusals import MOST_ITEMS
from recstore.stored import find_record, kind_name


def headers_fault(data):
    """The pair (offset, reason) of the first block that has no right number of units, or None (pass 2)."""
    offset = 0
    while offset < len(data):
        size = block_size(data, offset)
        if size == 0 or size > len(data) - offset:
            return offset, "block header"
        offset += size
    return None


class Inspection:
    """Looks for the faults of the bytes of a store that consists of blocks, in the passes 3 to 5."""

    def __init__(self, schema, data, following):
        self.schema = schema
        self.data = data
        self.following = following
        self.types = types(schema)
        self.found = blocks(data)

    def first_fault(self):
        """The pair (offset of the block, reason) of the first fault, or None."""
        # Each pass relies on what the ones ahead of it have made sure of in all blocks.
        for turn in (3, 4, 5):
            for place, block in enumerate(self.found):
                reason = self._reason(turn, place)
                if reason:
                    return block[0], reason
        return None

    def _reason(self, turn, place):
        """What a pass finds in the block at a place among all blocks."""
        offset, _, _, version = self.found[place]
        is_free = block_kind(self.data, offset) == 0
        if turn == 3 and is_free:
            return self._free_reason(place)
        if is_free:
            return ""
        if turn == 3:
            return self._type_reason(place)
        if turn == 4:
            return self._list_reason(place) if version >= LIST_BLOCK else ""
        return self._items_reason(place) if version >= LIST_BLOCK else self._own_reason(place)

    def _free_reason(self, place):
        """Pass 3 of a free block."""
        offset, size, _, _ = self.found[place]
        if any(self.data[offset + 2:offset + size]):
            return "free block not zero"
        if place > 0 and block_kind(self.data, self.found[place - 1][0]) == 0:
            return "neighbouring free blocks"
        return ""

    def _type_reason(self, place):
        """Pass 3 of a block that is not free."""
        offset, size, number, version = self.found[place]
        kind = block_kind(self.data, offset)
        if kind > len(self.types):
            return "record type"
        if version >= LIST_BLOCK:
            return ""
        name, versions = self.types[kind - 1]
        if version < 1 or version > versions:
            return "version"
        if number < 1 or number >= self.following:
            return "record number"
        if number in [block[2] for block in self._taken_ahead(place) if block[3] < LIST_BLOCK]:
            return "double block"
        return "" if size == UNIT * block_units(layout(self.schema, name, version)[0]) else "block size"

    def _list_reason(self, place):
        """Pass 4 of a list block."""
        offset, size, number, version = self.found[place]
        told = find_record(self.schema, self.data, number)
        if told is None or told[0] != kind_name(self.schema, block_kind(self.data, offset)):
            return "list block without record"
        view = open_view(self.schema, self.data, number, None)
        index = version - LIST_BLOCK
        if index >= len(view.layout[3]):
            return "list block without record"
        if (number, version) in [block[2:] for block in self._taken_ahead(place)]:
            return "double block"
        many = view.counts()[index]
        needed = UNIT * block_units(many * view.layout[3][index][2]) if many else 0
        return "" if size == needed else "block size"

    def _own_reason(self, place):
        """Pass 5 of a record's own block."""
        number = self.found[place][2]
        view = open_view(self.schema, self.data, number, None)
        found = view.active_spots("")
        headers = [entry[1] for entry in view.layout[3]]
        if self._has_unused(place, view, found, headers) or _has_wrong_tag(view, found):
            return "unused bytes or tag"
        if not all([self._is_right_header(view, index) for index in range(len(headers))]):
            return "list header"
        return "reference" if self._has_wrong_reference(view, found) else ""

    def _items_reason(self, place):
        """Pass 5 of a list block."""
        _, _, number, version = self.found[place]
        view = open_view(self.schema, self.data, number, None)
        found = view.active_spots(view.layout[3][version - LIST_BLOCK][0])
        if self._has_unused(place, view, found, []) or _has_wrong_tag(view, found):
            return "unused bytes or tag"
        return "reference" if self._has_wrong_reference(view, found) else ""

    def _has_unused(self, place, view, found, headers):
        """Whether a bit of a block's body is set that belongs neither to a field at the spots nor to a list header."""
        offset, size, _, _ = self.found[place]
        used = [0] * (size - UNIT)
        for header in headers:
            used[header:header + LIST_HEADER] = [255] * LIST_HEADER
        for index, item, field in found:
            mark_field(used, 0 if index is None else item * view.layout[3][index][2], field)
        body = self.data[offset + UNIT:offset + size]
        return any([byte & marked != byte for byte, marked in zip(body, used)])

    def _has_wrong_reference(self, view, found):
        """Whether a reference among the fields at the spots is to a record to come, or to one of another type."""
        for spot in found:
            if spot[2][7] == "reference":
                number = view.cells.read(spot)
                name = view.cells.name_of(number)
                if number >= self.following or (name is not None and not view.refers(spot, number)):
                    return True
        return False

    def _is_right_header(self, view, index):
        """Whether the header of a list tells where its list block is, and no more elements than there can be."""
        many = view.counts()[index]
        offset = find_block(self.data, view.cells.number, LIST_BLOCK + index)
        expected = 0 if offset is None else offset // UNIT + 1
        position = read_word(self.data, view.cells.body + view.layout[3][index][1] + 2, 2)
        return many <= MOST_ITEMS and position == expected and (many == 0) == (offset is None)

    def _taken_ahead(self, place):
        """The blocks ahead of a place that are not free."""
        return [block for block in self.found[:place] if block_kind(self.data, block[0]) != 0]


def _has_wrong_tag(view, found):
    """Whether a tag among the fields at the spots is greater than the number of its alternatives."""
    tags = [spot for spot in found if spot[2][7] == "tag"]
    return any([view.value(spot) > len(view.plan.kind(spot)[1]) for spot in tags])
