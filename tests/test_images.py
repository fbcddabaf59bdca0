"""i1, i2, i3: images byte by byte, each fault of each pass, and stores that are opened."""

import unittest

from both import Both, inner, outcome
from recstore.blocks import empty
from recstore.errors import BadImage, BadSchema
from recstore.images import check_image, read_image, write_image
from recstore.integers import read_slot
from recstore.layouts import layout, types
from recstore.schema import parse_schema
from recstore.store import Store, open_image

TEXT = """
struct s { x: u8; y: u16; }
struct t { b: bits u8 { p 2, q 3 }; to: ref r; }
record r 1 { a: u8; h: one of s, t; l: list of u16; m: list of t; to: ref r; at: ref p; }
record r 2 { a: u16; c: u32; h: one of s, t; l: list of u16; at: ref p; n: list of u8; e: u32; }
record p 1 { d: u16; k: bits u16 big { e 4, f 5 }; }
"""


def digits(number):
    return list(number.to_bytes(4, "little"))


def sealed(content):
    """An image of these bytes, which are all but the sum."""
    return content + digits(sum((byte + 1) * place for place, byte in enumerate(content, 1)) % 65521)


class Writing(unittest.TestCase):
    def test_byte_by_byte(self):
        store = Store("record ship 1 { tonnes: u16 = 100; marks: bits u8 { sail 1, crew 6 }; ports: list of u8; }", 64)
        store.create("ship", 1)
        store.push(1, "ports", 7)
        content = (
            [64, 0, 0, 0, 2, 0, 0, 0, 2, 0, 1, 1, 1, 0, 0, 0, 100, 0, 0, 0, 1, 0, 3, 0, 2, 0, 1, 128, 1, 0, 0, 0, 7]
            + [0] * 7 + [4] + [0] * 31
        )
        self.assertEqual(store.image(), content + digits(sum((byte + 1) * place for place, byte in enumerate(content, 1))))
        self.assertEqual(read_image(store.image()), (content[8:], 2))

    def test_of_bytes(self):
        for size in (64, 72, 1024):
            for number in (1, 256, 10000):
                data = empty(size)
                image = write_image(data, number)
                self.assertEqual(image, sealed(digits(size) + digits(number) + data))
                self.assertEqual(read_image(image), (data, number))
                self.assertEqual(data, empty(size))

    def test_the_sum_is_a_rest(self):
        image = write_image([255] * 1024, 10000)
        number = int.from_bytes(bytes(image[-4:]), "little")
        self.assertLess(number, 65521)
        self.assertEqual(number, sum((byte + 1) * place for place, byte in enumerate(image[:-4], 1)) % 65521)

    def test_what_is_read_is_new(self):
        image = write_image(empty(64), 5)
        before = list(image)
        data, _ = read_image(image)
        data[0] = 99
        self.assertEqual(image, before)


class Case(unittest.TestCase):
    """Record 1 (r 1) has an alternative and elements, 2 is a p, 3 an r 2 with an element, 5 a p; 4 was deleted."""

    def setUp(self):
        self.schema = parse_schema(TEXT)
        store = self.store = Store(TEXT, 256)
        for name, version in (("r", 1), ("p", 1), ("r", 2), ("p", 1), ("p", 1)):
            store.create(name, version)
        store.select(1, "h", "t")
        store.put(1, "h.t.to", 3)
        store.put(1, "at", 4)
        store.delete(4)
        for value in (7, 8, 9):
            store.push(1, "l", value)
        for _ in range(2):
            store.push(1, "m", None)
        store.put(1, "m.1.to", 1)
        store.push(3, "l", 300)
        self.image = store.image()
        self.data = read_image(self.image)[0]

    def at(self, number, version):
        """The offset of a block in the bytes of the store."""
        return [block[0] for block in self.store.blocks() if block[2:] == (number, version)][0]

    def changed(self, changes, next_number=6):
        """The fault of the image with some bytes of the store changed."""
        data = list(self.data)
        for offset, byte in changes.items():
            data[offset] = byte
        return check_image(self.schema, write_image(data, next_number))

    def fault(self, reason, offset, changes, next_number=6):
        before = list(self.image)
        self.assertEqual(self.changed(changes, next_number), (offset + 8, reason), changes)
        self.assertEqual(self.image, before)

    def offset(self, number, version, path, list_name=None):
        """Where the word of a field is in the bytes of the store; for a list, in its first element."""
        name, stored = self.store.kind(number)
        shape = layout(self.schema, name, stored)
        fields = shape[2] if list_name is None else [entry[3] for entry in shape[3] if entry[0] == list_name][0]
        return self.at(number, version) + 8 + [field[1] for field in fields if field[0] == path][0]

    def header(self, number, list_name):
        name, stored = self.store.kind(number)
        return self.at(number, stored) + 8 + [entry[1] for entry in layout(self.schema, name, stored)[3] if entry[0] == list_name][0]


class Frame(Case):
    def test_a_right_image(self):
        self.assertIsNone(check_image(self.schema, self.image))

    def test_image_length(self):
        for image in ([], self.image[:-1], self.image[:75], self.image + [0], self.image[:72], self.image + [0] * 4, [0] * 1037, [0] * 1040,
                      write_image([0] * 56, 1), write_image([0] * 1032, 1), [0] * 68, [0] * 1044):
            self.assertEqual(check_image(self.schema, image), (0, "image length"), len(image))
        for size in (64, 1024):
            self.assertIsNone(check_image(self.schema, write_image(empty(size), 1)))

    def test_store_size(self):
        for size in (0, 64, 255, 257, 264, 256 + 65536):
            self.assertEqual(check_image(self.schema, sealed(digits(size) + self.image[4:-4])), (0, "store size"))
        # All others come behind it.
        self.assertEqual(check_image(self.schema, digits(1) + digits(0) + self.image[8:-4] + [1, 2, 3, 4]), (0, "store size"))

    def test_sum(self):
        place = len(self.image) - 4
        for at in (4, 8, 40, place - 1, place, place + 1, place + 3):
            for change in (1, 77):
                image = list(self.image)
                image[at] = (image[at] + change) % 256
                self.assertEqual(check_image(self.schema, image), (place, "sum"), at)
        self.assertEqual(check_image(self.schema, self.image[:-4] + [0, 0, 0, 0]), (place, "sum"))
        number = int.from_bytes(bytes(self.image[-4:]), "little") + 65521
        self.assertEqual(check_image(self.schema, self.image[:-4] + digits(number)), (place, "sum"))

    def test_next_record_number(self):
        for number in (0, 10001, 65536, 2 ** 32 - 1):
            self.assertEqual(check_image(self.schema, write_image(self.data, number)), (4, "next record number"))
        for number in (6, 7, 10000):
            self.assertIsNone(check_image(self.schema, write_image(self.data, number)))
        # It comes ahead of the faults of blocks.
        self.assertEqual(check_image(self.schema, write_image([0] * 64, 0)), (4, "next record number"))


class Headers(Case):
    def test_block_header(self):
        left = len(self.data)
        for offset, size, _, _ in self.store.blocks():
            for units in (0, left // 8 + 1, 255):
                self.fault("block header", offset, {offset: units})
            self.fault("block header", offset, {offset + 1: 1})
            left -= size

    def test_all_headers_ahead_of_all_else(self):
        last = self.store.blocks()[-1][0]
        self.fault("block header", last, {last: 0, 2: 9, 3: 0, 4: 77})

    def test_the_last_unit(self):
        last, size, _, _ = self.store.blocks()[-1]
        self.fault("block header", last, {last: size // 8 + 1})
        self.fault("block header", last + size - 8, {last: size // 8 - 1})


class FreeBlocks(Case):
    def test_free_block_not_zero(self):
        free = [block for block in self.store.blocks() if block[2] == 0][-1]
        for offset in [3, 4, 5, 6, 7, 8, free[1] - 1]:
            self.fault("free block not zero", free[0], {free[0] + offset: 1})

    def test_neighbouring_free_blocks(self):
        free, size, _, _ = [block for block in self.store.blocks() if block[2] == 0][-1]
        self.fault("neighbouring free blocks", free + 8, {free: 1, free + 8: size // 8 - 1})
        # Not zero comes first in one block.
        self.fault("free block not zero", free + 8, {free: 1, free + 8: size // 8 - 1, free + 15: 3})

    def test_neighbouring_free_blocks_at_the_beginning(self):
        data = [1] + [0] * 7 + [2] + [0] * 15 + [5] + [0] * 39
        self.assertEqual(check_image(self.schema, write_image(data, 1)), (16, "neighbouring free blocks"))

    def test_the_lower_block_first(self):
        free = [block[0] for block in self.store.blocks() if block[2] == 0][-1]
        self.fault("record type", 0, {free + 9: 1, 2: 3})

    def test_free_blocks_with_others_between(self):
        store = Store(TEXT, 64)
        for _ in range(3):
            store.create("p", 1)
        store.delete(1)
        store.delete(3)
        self.assertEqual([block[1:3] for block in store.blocks()], [(16, 0), (16, 2), (32, 0)])
        self.assertIsNone(check_image(self.schema, store.image()))


class OwnBlocks(Case):
    def test_record_type(self):
        for offset, _, number, version in self.store.blocks():
            if number:
                for kind in (3, 4, 255):
                    self.fault("record type", offset, {offset + 2: kind})
        # All else in the block comes behind it.
        self.fault("record type", 0, {2: 3, 3: 0, 4: 0})

    def test_version(self):
        for number, version, wrong in ((1, 1, (0, 3, 127)), (2, 1, (0, 2, 100)), (3, 2, (0, 3))):
            at = self.at(number, version)
            for each in wrong:
                self.fault("version", at, {at + 3: each})
                self.fault("version", at, {at + 3: each, at + 4: 0})

    def test_record_number(self):
        at = self.at(2, 1)
        for number in (0, 6, 7, 255):
            self.fault("record number", at, {at + 4: number})
        for place in (5, 6, 7):
            self.fault("record number", at, {at + place: 1})
        self.fault("record number", self.at(5, 1), {}, 5)
        self.fault("record number", 0, {}, 1)

    def test_double_block(self):
        blocks = [block for block in self.store.blocks() if block[2] and block[3] < 128]
        for place, block in enumerate(blocks):
            for other in blocks[:place]:
                self.fault("double block", block[0], {block[0] + 4: other[2]})

    def test_block_size(self):
        # A version that needs another number of units; and a block that has one unit more.
        self.fault("block size", self.at(3, 2), {self.at(3, 2) + 3: 1})
        store = Store(TEXT, 64)
        store.create("p", 1)
        data = read_image(store.image())[0]
        data[0], data[16:] = 3, [0] * 8 + [5] + [0] * 39
        self.assertEqual(check_image(self.schema, write_image(data, 2)), (8, "block size"))
        data[0], data[8:] = 1, [7] + [0] * 55
        self.assertEqual(check_image(self.schema, write_image(data, 2)), (8, "block size"))

    def test_double_block_ahead_of_block_size(self):
        at = self.at(3, 2)
        self.fault("double block", at, {at + 3: 1, at + 4: 1})


class ListBlocks(Case):
    def test_list_block_without_record(self):
        at = self.at(1, 128)
        # No such record; one of another type; a list that the version does not have.
        for number in (0, 4, 6, 200):
            self.fault("list block without record", at, {at + 4: number})
        self.fault("list block without record", at, {at + 4: 2})
        self.fault("list block without record", at, {at + 2: 2})
        for index in (2, 3, 127):
            self.fault("list block without record", at, {at + 3: 128 + index})
        self.fault("list block without record", at, {at + 7: 1})

    def test_double_block(self):
        first, second = self.at(1, 128), self.at(1, 129)
        self.assertLess(first, second)
        self.fault("double block", second, {second + 3: 128})
        # The size of this one is right for its own list.
        third = self.at(3, 128)
        self.fault("block size", third, {third + 3: 129})

    def test_block_size(self):
        at, header = self.at(1, 128), self.header(1, "l")
        for many in (0, 5, 60, 61):
            self.fault("block size", at, {header: many})
        self.fault("block size", at, {header + 1: 1})
        at = self.at(3, 128)
        self.fault("block size", at, {at + 3: 129})

    def test_behind_all_own_blocks(self):
        at, last = self.at(1, 128), self.at(3, 2)
        self.fault("version", last, {at + 4: 77, last + 3: 9})

    def test_ahead_of_all_bodies(self):
        # The body of the first block is wrong, too.
        at = self.at(1, 128)
        self.fault("list block without record", at, {8: 5, at + 3: 140, self.offset(1, 1, "h"): 9})


class Bodies(Case):
    def test_unused_bytes(self):
        name, stored = "r", 1
        at = self.at(1, 1) + 8
        shape = layout(self.schema, name, stored)
        block = [each for each in self.store.blocks() if each[2:] == (1, 1)][0]
        active = {field[0] for field in shape[2]} - {"h.s.x", "h.s.y"}
        used = {field[1] + place for field in shape[2] if field[0] in active for place in range(field[2])}
        used |= {entry[1] + place for entry in shape[3] for place in range(4)}
        unused = [place for place in range(block[1] - 8) if place not in used]
        self.assertGreater(len(unused), 5)
        for place in unused:
            self.fault("unused bytes or tag", block[0], {at + place: 1})
            self.fault("unused bytes or tag", block[0], {at + place: 128})

    def test_unused_bits(self):
        at = self.offset(1, 1, "h.t.b.p")
        for bits in (32, 64, 128, 255, 33):
            self.fault("unused bytes or tag", self.at(1, 1), {at: bits})
        self.assertIsNone(self.changed({at: 31}))
        at = self.offset(2, 1, "k.e")
        # Big-endian, 9 bits: the lowest one of the first byte, and all of the second one.
        self.assertIsNone(self.changed({at: 1, at + 1: 255}))
        self.fault("unused bytes or tag", self.at(2, 1), {at: 2})

    def test_fields_of_alternatives_that_are_not_selected(self):
        at = self.offset(1, 1, "h")
        self.fault("unused bytes or tag", self.at(1, 1), {at: 0})
        # The reference lies where the other alternative has nothing.
        self.fault("unused bytes or tag", self.at(1, 1), {at: 1})

    def test_tags(self):
        at = self.offset(3, 2, "h")
        for tag in (3, 4, 255):
            self.fault("unused bytes or tag", self.at(3, 2), {at: tag})
        for tag in (0, 1, 2):
            self.assertIsNone(self.changed({at: tag}))

    def test_list_header(self):
        for number, version, name in ((1, 1, "l"), (1, 1, "m"), (3, 2, "l")):
            header, at = self.header(number, name), self.at(number, version)
            for wrong in (0, self.data[header + 2] + 1, self.data[header + 2] - 1, 255):
                self.fault("list header", at, {header + 2: wrong})
            self.fault("list header", at, {header + 3: 1})
        header = self.header(3, "n")
        for place, wrong in ((2, 1), (2, 5), (3, 1)):
            self.fault("list header", self.at(3, 2), {header + place: wrong})
        # Elements, but no list block.
        for many in (1, 60, 61, 255):
            self.fault("list header", self.at(3, 2), {header: many})
            self.fault("list header", self.at(3, 2), {header: many, header + 2: 4})

    def test_a_position_of_another_block(self):
        header, other = self.header(1, "l"), self.header(1, "m")
        self.fault("list header", self.at(1, 1), {header + 2: self.data[other + 2], other + 2: self.data[header + 2]})

    def test_more_than_60_elements(self):
        store = Store("record r 1 { l: list of u8; }", 128)
        store.create("r", 1)
        for _ in range(60):
            store.push(1, "l", 1)
        data = read_image(store.image())[0]
        schema = parse_schema("record r 1 { l: list of u8; }")
        self.assertIsNone(check_image(schema, write_image(data, 2)))
        # There is room for four more in the block.
        data[8] = 61
        self.assertEqual(check_image(schema, write_image(data, 2)), (8, "list header"))

    def test_reference(self):
        at = self.offset(1, 1, "to")
        for number in (6, 7, 255):
            self.fault("reference", self.at(1, 1), {at: number})
        for number in (2, 5):
            self.fault("reference", self.at(1, 1), {at: number})
        self.fault("reference", self.at(1, 1), {at + 3: 1})
        # None, itself, one of its type, and one that is no more.
        for number in (0, 1, 3, 4):
            self.assertIsNone(self.changed({at: number}))
        self.fault("reference", self.at(1, 1), {self.offset(1, 1, "at"): 3})
        self.fault("reference", self.at(3, 2), {self.offset(3, 2, "at"): 1})
        self.fault("reference", self.at(1, 1), {self.offset(1, 1, "h.t.to"): 2})

    def test_in_lists(self):
        at = self.at(1, 129)
        stride = layout(self.schema, "r", 1)[3][1][2]
        self.assertEqual(stride, 8)
        self.assertIsNone(self.changed({at + 8: 31, at + 16: 31}))
        for item in (0, 1):
            start = at + 8 + item * stride
            for place in (1, 2, 3):
                self.fault("unused bytes or tag", at, {start + place: 1})
            self.fault("unused bytes or tag", at, {start: 32})
            for number in (2, 5, 6, 77):
                self.fault("reference", at, {start + 4: number})
        at = self.at(1, 128)
        for place in (6, 7):
            self.fault("unused bytes or tag", at, {at + 8 + place: 1})

    def test_alternatives_in_lists(self):
        text = "struct s { x: u8; } struct t { y: u16; } struct u { o: one of s, t; r: ref r; } record r 1 { l: list of u; }"
        schema, store = parse_schema(text), Store(text, 128)
        store.create("r", 1)
        for _ in range(3):
            store.push(1, "l", None)
        store.select(1, "l.1.o", "s")
        store.put(1, "l.1.o.s.x", 9)
        store.put(1, "l.2.r", 1)
        data = read_image(store.image())[0]
        # The list block is at 16; an element has 8 bytes: the tag at 0, the alternatives at 2, the reference at 4.
        for changes, expected in (
            ({}, None), ({32: 2}, None), ({32: 3}, "unused bytes or tag"), ({32: 0}, "unused bytes or tag"),
            ({35: 1}, "unused bytes or tag"), ({32: 2, 35: 1}, None), ({24: 1}, None), ({26: 1}, "unused bytes or tag"),
            ({24: 3}, "unused bytes or tag"), ({44: 2}, "reference"), ({28: 1}, None), ({28: 9, 35: 1}, "unused bytes or tag"),
        ):
            changed = [changes.get(place, byte) for place, byte in enumerate(data)]
            told = check_image(schema, write_image(changed, 2))
            self.assertEqual(told, None if expected is None else (24, expected), changes)

    def test_orders_in_a_block(self):
        at = self.at(1, 1)
        header, reference, tag = self.header(1, "m"), self.offset(1, 1, "to"), self.offset(3, 2, "h")
        self.fault("list header", at, {header + 2: 0, reference: 9})
        self.fault("unused bytes or tag", at, {header + 2: 0, reference: 9, at + 9: 1})
        self.fault("list header", self.at(3, 2), {self.header(3, "l") + 2: 0, self.offset(3, 2, "at"): 1})
        self.fault("unused bytes or tag", self.at(3, 2), {self.header(3, "l") + 2: 0, self.offset(3, 2, "at"): 1, tag: 3})

    def test_the_lower_block_first(self):
        # The list block of record 1 is behind its own block and ahead of nothing that is wrong.
        self.fault("reference", self.at(1, 1), {self.offset(1, 1, "to"): 9, self.at(1, 128) + 14: 1})


class Opening(Case):
    def test_goes_on(self):
        opened = open_image(TEXT, self.image)
        before = inner(self.store, self.schema, 0)
        before["journal"] = []
        self.assertEqual(inner(opened, self.schema, 0), before)
        for name, arguments in (
            ("create", ("r", 1)), ("push", (1, "l", 99)), ("put", (1, "m.1.b.q", 7)), ("upgrade", (1, 2)), ("delete", (2,)),
            ("grow", (264,)), ("push_together", ()), ("checkpoint", ()), ("device", ()), ("lease", (1, 3, "l", False)),
            ("begin", (1, "get", 3, "l.0", None, None, None)), ("step", (1,)), ("step", (1,)), ("step", (1,)), ("back", ()),
            ("release", (1,)), ("back", ()), ("device", ()), ("put", (6, "to", 77)),
        ):
            told = outcome(getattr(opened, name), *arguments)
            self.assertEqual(told, outcome(getattr(self.store, name), *arguments), name)
            self.assertEqual(opened.journal(), [])
        self.assertEqual(opened.image(), self.store.image())

    def test_without_leases_devices_and_checkpoints(self):
        self.store.checkpoint()
        self.store.device()
        self.store.lease(1, 1, "a", False)
        opened = open_image(TEXT, self.store.image())
        self.assertEqual((opened.held(), outcome(opened.busy, 1), outcome(opened.back)), (
            [], ("BadArgument", "device"), ("BadArgument", "checkpoint")))
        self.assertEqual((opened.device(), opened.lease(1, 1, "a", True), opened.next_number()), (1, 1, 6))

    def test_refusals(self):
        for image, offset, reason in (
            ([], 0, "image length"), (self.image[:-1] + [9], len(self.image) - 4, "sum"),
            (write_image(self.data, 1), 8, "record number"), (write_image(self.data, 0), 4, "next record number"),
        ):
            with self.assertRaises(BadImage) as caught:
                open_image(TEXT, image)
            self.assertEqual((caught.exception.offset, caught.exception.reason), (offset, reason))
        with self.assertRaises(BadSchema):
            open_image("record", [])
        # It is right for its own schema alone.
        with self.assertRaises(BadImage):
            open_image("record p 1 { d: u16; }", self.image)

    def test_the_arguments_do_not_change(self):
        image = list(self.image)
        opened = open_image(TEXT, image)
        opened.put(1, "a", 77)
        self.assertEqual(image, self.image)


def judge(schema, image):
    """What i2 says, written down once more in another way."""
    def number(at, size=4):
        return sum(byte * 256 ** place for place, byte in enumerate(image[at:at + size]))

    if not 76 <= len(image) <= 1036 or len(image) % 8 != 4:
        return 0, "image length"
    if number(0) != len(image) - 12:
        return 0, "store size"
    if image[:-4] + image[-4:] != sealed(image[:-4]):
        return len(image) - 4, "sum"
    if not 1 <= number(4) <= 10000:
        return 4, "next record number"
    found, at = [], 8
    while at < len(image) - 4:
        units = number(at, 2)
        if units < 1 or at + 8 * units > len(image) - 4:
            return at, "block header"
        found.append({"at": at, "units": units, "kind": image[at + 2], "byte": image[at + 3], "number": number(at + 4)})
        at += 8 * units
    names = types(schema)
    records, lists, ahead = {}, {}, None
    for block in found:
        reason = None
        if block["kind"] == 0:
            if any(image[block["at"] + 2:block["at"] + 8 * block["units"]]):
                reason = "free block not zero"
            elif ahead is not None and ahead["kind"] == 0:
                reason = "neighbouring free blocks"
        elif block["kind"] > len(names):
            reason = "record type"
        elif block["byte"] < 128:
            block["name"], last = names[block["kind"] - 1]
            if not 1 <= block["byte"] <= last:
                reason = "version"
            elif not 1 <= block["number"] < number(4):
                reason = "record number"
            elif block["number"] in records:
                reason = "double block"
            else:
                block["shape"] = layout(schema, block["name"], block["byte"])
                if block["units"] != 1 + -(-block["shape"][0] // 8):
                    reason = "block size"
                records[block["number"]] = block
        if reason:
            return block["at"], reason
        ahead = block
    for block in found:
        if block["kind"] and block["byte"] >= 128:
            owner = records.get(block["number"])
            key = block["number"], block["byte"] - 128
            if owner is None or owner["kind"] != block["kind"] or key[1] >= len(owner["shape"][3]):
                return block["at"], "list block without record"
            if key in lists:
                return block["at"], "double block"
            lists[key] = block
            _, header, stride, _ = owner["shape"][3][key[1]]
            many = number(owner["at"] + 8 + header, 2)
            if many == 0 or block["units"] != 1 + -(-many * stride // 8):
                return block["at"], "block size"
    for block in found:
        if block["kind"]:
            reason = judge_body(schema, image, block, records, lists, number(4))
            if reason:
                return block["at"], reason
    return None


def judge_body(schema, image, block, records, lists, next_number):
    """Pass 5 of a block."""
    body = image[block["at"] + 8:block["at"] + 8 * block["units"]]
    own = block["byte"] < 128
    shape = records[block["number"]]["shape"]
    left, wrong_tag, wrong_reference = list(body), False, False
    if own:
        parts = [(0, shape[2], "")]
    else:
        name, header, stride, fields = shape[3][block["byte"] - 128]
        owner = records[block["number"]]["at"] + 8 + header
        parts = [(item * stride, fields, name + "." + str(item)) for item in range(image[owner] + 256 * image[owner + 1])]
    for start, fields, ahead in parts:
        values = {field[0]: read_slot(body, start + field[1], *field[2:7]) for field in fields}
        for field in fields:
            if any(values[tag] != wanted for tag, wanted in field[8]):
                continue
            for bit in range(field[4], field[4] + field[5]):
                place = field[2] - 1 - bit // 8 if field[3] else bit // 8
                left[start + field[1] + place] &= 255 - (1 << bit % 8)
            if field[7] == "tag":
                many = {wanted for other in fields for tag, wanted in other[8] if tag == field[0]}
                wrong_tag |= values[field[0]] > max(many)
            if field[7] == "reference":
                target = records.get(values[field[0]])
                wanted = "p" if field[0] == "at" else "r"
                wrong_reference |= values[field[0]] >= next_number or (target is not None and target["name"] != wanted)
    wrong_header = False
    if own:
        for index, (_, header, _, _) in enumerate(shape[3]):
            left[header:header + 4] = [0] * 4
            many, position = (body[header + place] + 256 * body[header + place + 1] for place in (0, 2))
            there = lists.get((block["number"], index))
            expected = there["at"] // 8 if there and many else 0
            wrong_header |= many > 60 or (many > 0 and there is None) or position != expected
    if any(left) or wrong_tag:
        return "unused bytes or tag"
    if wrong_header:
        return "list header"
    return "reference" if wrong_reference else None


class Judging(Case):
    """Images with changed bytes are judged as i2 says; those that are let by are those of right stores."""

    def pick(self, many):
        self.state = (self.state * 1103515245 + 12345) % 2 ** 31
        return self.state // 65536 % many

    def compare(self, image):
        told = check_image(self.schema, image)
        self.assertEqual(told, judge(self.schema, image))
        self.reasons[told and told[1]] = self.reasons.get(told and told[1], 0) + 1
        if told is None:
            opened = open_image(TEXT, image)
            self.assertEqual(opened.image(), image)
            for number in opened.numbers():
                for version in range(opened.kind(number)[1], 3 if opened.kind(number)[0] == "r" else 2):
                    opened.values(number, version, "")

    def test_each_byte(self):
        self.reasons = {}
        for place in range(len(self.image) - 4):
            for byte in {0, 1, 2, 3, 4, 5, 7, 16, 61, 128, 129, 255} | {self.image[place] + 1, self.image[place] ^ 1}:
                content = list(self.image[:-4])
                content[place] = byte % 256
                self.compare(sealed(content))
        self.check_reasons(20)

    def test_several_bytes(self):
        self.reasons = {}
        self.state = 3
        small = (0, 0, 1, 1, 2, 3, 5, 6, 128, 129, 130)
        for _ in range(2500):
            content = list(self.image[:-4])
            for _ in range(1 + self.pick(4)):
                block = self.store.blocks()[self.pick(len(self.store.blocks()))]
                place = 8 + block[0] + self.pick(min(block[1], 8) if self.pick(2) else block[1])
                content[place] = small[self.pick(len(small))] if self.pick(3) else self.pick(256)
            self.compare(sealed(content))
        self.check_reasons(5)

    def check_reasons(self, least):
        """All faults of blocks were met."""
        for reason in (
            None, "block header", "free block not zero", "record type", "version", "record number", "double block", "block size",
            "list block without record", "unused bytes or tag", "list header", "reference",
        ):
            self.assertGreaterEqual(self.reasons.get(reason, 0), least, reason)


class Right(unittest.TestCase):
    def test_each_store_without_exclusive_words(self):
        both = Both(TEXT, 128, slow=True)
        schema = both.schema
        for name, arguments in (
            ("create", ("r", 1)), ("create", ("p", 1)), ("select", (1, "h", "s")), ("put", (1, "h.s.y", 65535)), ("push", (1, "l", 5)),
            ("device", ()), ("lease", (1, 1, "", False)), ("lease", (1, 1, "l", False)), ("begin", (1, "get", 1, "a", None, None, None)),
            ("push_together", ()), ("grow", (136,)), ("step", (1,)), ("release", (1,)), ("checkpoint", ()), ("release", (2,)),
            ("checkpoint", ()), ("delete", (2,)), ("pop", (1, "l")), ("back", ()), ("upgrade", (1, 2)),
        ):
            both.call(name, *arguments)
            image = both.store.image()
            self.assertEqual((check_image(schema, image), judge(schema, image)), (None, None), name)


if __name__ == "__main__":
    unittest.main()
