"""l1, r1, r7: push, pop and length, where list blocks lie, all list headers, and the refusals in order."""

import unittest

from recstore.blocks import blocks, empty, find_block, give_back, push_together, take, used
from recstore.errors import BadField, Full, OutOfRange
from recstore.lists import fix_headers, length, pop, push
from recstore.records import delete, new_record, select, set_value, value, values
from recstore.schema import parse_schema

BYTES = parse_schema("record r 1 { a: u8 = 255; l: list of u8; }")
TWO = parse_schema(
    "struct s { x: u8; y: u16 big; } record q 1 { z: u8; } record r 1 { a: u8 = 255; l: list of i16 big; m: list of s; }"
)
# Behind the header of the block: a, padding, the header of l and, in TWO, that of m.
A, L, M = 8, 10, 14


def made(schema, size, *numbers):
    data = empty(size)
    for number in numbers:
        new_record(schema, data, "r", 1, number)
    return data


def header(data, offset):
    """The count and the position in a list header."""
    return data[offset] + 256 * data[offset + 1], data[offset + 2] + 256 * data[offset + 3]


class Pushing(unittest.TestCase):
    def test_all_bytes(self):
        data = made(BYTES, 64, 1)
        self.assertEqual(push(BYTES, data, 1, "l", 7), 1)
        own = [2, 0, 1, 1, 1, 0, 0, 0, 255, 0]
        block = [2, 0, 1, 128, 1, 0, 0, 0]
        self.assertEqual(data, own + [1, 0, 3, 0, 0, 0] + block + [7] + [0] * 7 + [4] + [0] * 31)
        self.assertEqual(push(BYTES, data, 1, "l", 9), 2)
        self.assertEqual(data, own + [2, 0, 3, 0, 0, 0] + block + [7, 9] + [0] * 6 + [4] + [0] * 31)

    def test_values(self):
        data = made(TWO, 128, 1)
        for count, new in enumerate((-32768, 32767, 0, None, -1)):
            self.assertEqual(push(TWO, data, 1, "l", new), count + 1)
        self.assertEqual([pair[1] for pair in values(TWO, data, 1, 1, "l")], [-32768, 32767, 0, 0, -1])

    def test_elements_that_are_structs(self):
        data = made(TWO, 128, 1)
        self.assertEqual((push(TWO, data, 1, "m", None), push(TWO, data, 1, "m", None)), (1, 2))
        self.assertEqual(values(TWO, data, 1, 1, "m"), [("m.0.x", 0), ("m.0.y", 0), ("m.1.x", 0), ("m.1.y", 0)])
        set_value(TWO, data, 1, "m.1.y", 258)
        offset = find_block(data, 1, 129)
        self.assertEqual(data[offset:offset + 16], [2, 0, 2, 129, 1, 0, 0, 0, 0, 0, 0, 0, 0, 0, 1, 2])
        self.assertEqual(push(TWO, data, 1, "m", None), 3)
        offset = find_block(data, 1, 129)
        self.assertEqual(data[offset:offset + 24], [3, 0, 2, 129, 1] + [0] * 9 + [1, 2] + [0] * 8)

    def test_a_block_that_has_room_stays(self):
        data = made(BYTES, 128, 1)
        push(BYTES, data, 1, "l", 1)
        new_record(BYTES, data, "r", 1, 2)
        places = blocks(data)
        for count in range(2, 9):
            push(BYTES, data, 1, "l", count)
            self.assertEqual(blocks(data), places)
        push(BYTES, data, 1, "l", 9)
        self.assertEqual(blocks(data), [(0, 16, 1, 1), (16, 16, 0, 0), (32, 16, 2, 1), (48, 24, 1, 128), (72, 56, 0, 0)])
        self.assertEqual(data[16:32], [2] + [0] * 15)
        self.assertEqual(data[48:72], [3, 0, 1, 128, 1, 0, 0, 0, 1, 2, 3, 4, 5, 6, 7, 8, 9] + [0] * 7)
        self.assertEqual(header(data, L), (9, 7))

    def test_the_old_block_is_given_back_ahead(self):
        data = made(BYTES, 64, 1)
        for count in range(8):
            push(BYTES, data, 1, "l", count)
        push(BYTES, data, 1, "l", 8)
        self.assertEqual(blocks(data), [(0, 16, 1, 1), (16, 24, 1, 128), (40, 24, 0, 0)])
        for count in range(9, 40):
            push(BYTES, data, 1, "l", count)
        self.assertEqual(blocks(data), [(0, 16, 1, 1), (16, 48, 1, 128)])
        self.assertEqual([pair[1] for pair in values(BYTES, data, 1, 1, "l")], list(range(40)))

    def test_full_and_nothing_changes(self):
        data = made(BYTES, 64, 1)
        for count in range(40):
            push(BYTES, data, 1, "l", count)
        before = list(data)
        for new in (5, None):
            with self.assertRaises(Full):
                push(BYTES, data, 1, "l", new)
            self.assertEqual(data, before)

    def test_full_where_a_list_has_no_block(self):
        data = made(BYTES, 64, 1, 2, 3)
        take(data, 1, 1, 129, 3)
        before = list(data)
        with self.assertRaises(Full):
            push(BYTES, data, 2, "l", 1)
        self.assertEqual(data, before)
        give_back(data, 48)
        self.assertEqual(push(BYTES, data, 2, "l", 1), 1)
        self.assertEqual(used(data), 64)

    def test_room_in_pieces(self):
        data = made(BYTES, 72, 1, 2, 3)
        push(BYTES, data, 3, "l", 9)
        delete(BYTES, data, 2)
        self.assertEqual(blocks(data), [(0, 16, 1, 1), (16, 16, 0, 0), (32, 16, 3, 1), (48, 16, 3, 128), (64, 8, 0, 0)])
        for count in range(2, 9):
            push(BYTES, data, 3, "l", count)
        # The block that is given back is between free ones.
        push(BYTES, data, 3, "l", 100)
        self.assertEqual(blocks(data), [(0, 16, 1, 1), (16, 16, 0, 0), (32, 16, 3, 1), (48, 24, 3, 128)])
        self.assertEqual(header(data, 32 + L), (9, 7))
        push(BYTES, data, 1, "l", 50)
        self.assertEqual(blocks(data), [(0, 16, 1, 1), (16, 16, 1, 128), (32, 16, 3, 1), (48, 24, 3, 128)])
        self.assertEqual([header(data, L), header(data, 32 + L)], [(1, 3), (9, 7)])

    def test_headers_behind_a_push_that_moves_blocks(self):
        data = made(BYTES, 96, 1, 2, 3)
        push(BYTES, data, 3, "l", 8)
        push(BYTES, data, 2, "l", 9)
        delete(BYTES, data, 1)
        self.assertEqual(blocks(data), [
            (0, 16, 0, 0), (16, 16, 2, 1), (32, 16, 3, 1), (48, 16, 3, 128), (64, 16, 2, 128), (80, 16, 0, 0),
        ])
        for count in range(10, 17):
            push(BYTES, data, 2, "l", count)
        # Free are 16 bytes at the beginning and, once the old block is given back, 32 at the end.
        for count in range(17, 34):
            push(BYTES, data, 2, "l", count)
        self.assertEqual(blocks(data), [(0, 16, 2, 1), (16, 16, 3, 1), (32, 16, 3, 128), (48, 40, 2, 128), (88, 8, 0, 0)])
        self.assertEqual([header(data, L), header(data, 16 + L)], [(25, 7), (1, 5)])
        self.assertEqual([pair[1] for pair in values(BYTES, data, 2, 1, "l")], list(range(9, 34)))
        self.assertEqual(values(BYTES, data, 3, 1, "l"), [("l.0", 8)])

    def test_a_record_that_moves_itself(self):
        data = made(BYTES, 64, 1, 2)
        push(BYTES, data, 2, "l", 5)
        delete(BYTES, data, 1)
        for count in range(6, 13):
            push(BYTES, data, 2, "l", count)
        self.assertEqual(blocks(data), [(0, 16, 0, 0), (16, 16, 2, 1), (32, 16, 2, 128), (48, 16, 0, 0)])
        for count in range(13, 30):
            push(BYTES, data, 2, "l", count)
        self.assertEqual(blocks(data), [(0, 16, 2, 1), (16, 40, 2, 128), (56, 8, 0, 0)])
        self.assertEqual(header(data, L), (25, 3))
        self.assertEqual([pair[1] for pair in values(BYTES, data, 2, 1, "l")], list(range(5, 30)))

    def test_sixty_elements(self):
        data = made(BYTES, 128, 1)
        for count in range(60):
            self.assertEqual(push(BYTES, data, 1, "l", count), count + 1)
        self.assertEqual(length(BYTES, data, 1, 1, "l"), 60)
        self.assertEqual([pair[1] for pair in values(BYTES, data, 1, 1, "l")], list(range(60)))
        before = list(data)
        for new in (1, None, 256):
            with self.assertRaises(BadField) as caught:
                push(BYTES, data, 1, "l", new)
            self.assertEqual((caught.exception.reason, data), ("long", before))
        self.assertEqual(pop(BYTES, data, 1, "l"), 59)
        self.assertEqual(push(BYTES, data, 1, "l", 200), 60)
        self.assertEqual(value(BYTES, data, 1, 1, "l.59"), 200)

    def test_both_lists_of_a_record(self):
        data = made(TWO, 128, 1)
        push(TWO, data, 1, "m", None)
        push(TWO, data, 1, "l", 258)
        self.assertEqual(blocks(data), [(0, 24, 1, 1), (24, 16, 1, 129), (40, 16, 1, 128), (56, 72, 0, 0)])
        self.assertEqual(data[L:L + 8], [1, 0, 6, 0, 1, 0, 4, 0])
        self.assertEqual([data[offset + 2] for offset in (0, 24, 40)], [2, 2, 2])

    def test_references_to_nothing_stay_as_they_are(self):
        schema = parse_schema("struct s { to: ref r; } record r 1 { a: u8; l: list of s; }")
        data = made(schema, 256, 1, 2)
        for item in range(2):
            push(schema, data, 1, "l", None)
            set_value(schema, data, 1, f"l.{item}.to", 2)
        delete(schema, data, 2)
        for many in (3, 4, 5):
            self.assertEqual(push(schema, data, 1, "l", None), many)
        offset = find_block(data, 1, 128)
        self.assertEqual(data[offset + 8:offset + 16], [2, 0, 0, 0, 2, 0, 0, 0])
        for many in (4, 3, 2, 1):
            self.assertEqual(pop(schema, data, 1, "l"), many)
        offset = find_block(data, 1, 128)
        self.assertEqual(data[offset + 8:offset + 16], [2, 0, 0, 0, 0, 0, 0, 0])
        self.assertEqual(values(schema, data, 1, 1, "l"), [("l.0.to", 0)])

    def test_elements_that_are_pushed_behind_popped_ones_are_zeros(self):
        schema = parse_schema("struct g { w: u32; } struct s { x: u8; u: one of g; } record r 1 { l: list of s; }")
        data = made(schema, 128, 1)
        push(schema, data, 1, "l", None)
        before = list(data)
        push(schema, data, 1, "l", None)
        set_value(schema, data, 1, "l.1.x", 255)
        select(schema, data, 1, "l.1.u", "g")
        set_value(schema, data, 1, "l.1.u.g.w", 2 ** 32 - 1)
        pop(schema, data, 1, "l")
        self.assertEqual(data, before)
        push(schema, data, 1, "l", None)
        self.assertEqual(values(schema, data, 1, 1, "l.1"), [("l.1.x", 0), ("l.1.u", 0)])


class Popping(unittest.TestCase):
    def test_a_block_that_is_still_needed_stays(self):
        data = made(BYTES, 64, 1)
        for count in (7, 8, 9):
            push(BYTES, data, 1, "l", count)
        self.assertEqual(pop(BYTES, data, 1, "l"), 2)
        self.assertEqual(data[16:32], [2, 0, 1, 128, 1, 0, 0, 0, 7, 8] + [0] * 6)
        self.assertEqual(header(data, L), (2, 3))

    def test_the_last_element_goes_with_the_block(self):
        data = made(BYTES, 64, 1)
        before = list(data)
        push(BYTES, data, 1, "l", 7)
        self.assertEqual(pop(BYTES, data, 1, "l"), 0)
        self.assertEqual(data, before)
        self.assertEqual((length(BYTES, data, 1, 1, "l"), values(BYTES, data, 1, 1, "l")), (0, []))

    def test_a_block_that_shrinks_stays_where_it_can(self):
        data = made(BYTES, 64, 1)
        for count in range(9):
            push(BYTES, data, 1, "l", count)
        self.assertEqual(pop(BYTES, data, 1, "l"), 8)
        self.assertEqual(blocks(data), [(0, 16, 1, 1), (16, 16, 1, 128), (32, 32, 0, 0)])
        self.assertEqual(data[16:32], [2, 0, 1, 128, 1, 0, 0, 0, 0, 1, 2, 3, 4, 5, 6, 7])
        self.assertEqual(data[32:], [4] + [0] * 31)

    def test_a_block_that_shrinks_is_taken_anew(self):
        data = made(BYTES, 96, 1, 2, 3)
        for count in range(9):
            push(BYTES, data, 3, "l", count)
        delete(BYTES, data, 2)
        self.assertEqual(blocks(data), [(0, 16, 1, 1), (16, 16, 0, 0), (32, 16, 3, 1), (48, 24, 3, 128), (72, 24, 0, 0)])
        self.assertEqual(pop(BYTES, data, 3, "l"), 8)
        self.assertEqual(blocks(data), [(0, 16, 1, 1), (16, 16, 3, 128), (32, 16, 3, 1), (48, 48, 0, 0)])
        self.assertEqual(data[16:32], [2, 0, 1, 128, 3, 0, 0, 0, 0, 1, 2, 3, 4, 5, 6, 7])
        self.assertEqual(header(data, 32 + L), (8, 3))

    def test_a_full_store(self):
        data = made(BYTES, 64, 1)
        for count in range(40):
            push(BYTES, data, 1, "l", count)
        for count in range(39, -1, -1):
            self.assertEqual(pop(BYTES, data, 1, "l"), count)
            self.assertEqual([pair[1] for pair in values(BYTES, data, 1, 1, "l")], list(range(count)))
        self.assertEqual(data, made(BYTES, 64, 1))


class Refusals(unittest.TestCase):
    def setUp(self):
        self.data = made(TWO, 1024, 1)

    def refused(self, reason, call, *arguments):
        before = list(self.data)
        with self.subTest(reason=reason, arguments=arguments):
            with self.assertRaises(OutOfRange if reason is None else BadField) as caught:
                call(TWO, self.data, *arguments)
            if reason is not None:
                self.assertEqual(caught.exception.reason, reason)
            self.assertEqual(self.data, before)

    def test_no_such_list(self):
        for name in ("x", "a", "", "l.0", "l.", "L", "m.0.x", "z"):
            self.refused("no such list", push, 1, name, 1)
            self.refused("no such list", push, 1, name, None)
            self.refused("no such list", pop, 1, name)
            self.refused("no such list", length, 1, 1, name)

    def test_no_value(self):
        for new in (0, 1, -1, 10 ** 6):
            self.refused("no value", push, 1, "m", new)

    def test_out_of_range(self):
        for new in (-32769, 32768, 10 ** 9):
            self.refused(None, push, 1, "l", new)

    def test_empty(self):
        for name in ("l", "m"):
            self.refused("empty", pop, 1, name)
            push(TWO, self.data, 1, name, None)
            pop(TWO, self.data, 1, name)
            self.refused("empty", pop, 1, name)

    def test_long_ahead_of_all_else(self):
        for _ in range(60):
            push(TWO, self.data, 1, "l", None)
            push(TWO, self.data, 1, "m", None)
        self.refused("long", push, 1, "m", 5)
        self.refused("long", push, 1, "l", 10 ** 6)
        self.refused("long", push, 1, "l", 1)
        self.refused("no such list", push, 1, "k", 1)

    def test_full_behind_all_else(self):
        data = made(TWO, 64, 1, 2)
        take(data, 2, 1, 1, 3)
        before = list(data)
        for name, new, error in (("m", 5, BadField), ("l", 10 ** 6, OutOfRange), ("l", 5, Full), ("m", None, Full)):
            with self.assertRaises(error):
                push(TWO, data, 1, name, new)
            self.assertEqual(data, before)


class Lengths(unittest.TestCase):
    def test_versions(self):
        schema = parse_schema(
            "record r 1 { l: list of u8; k: list of u8; } record r 2 { m was l: list of u16; l was k: list of u8; }"
            "record r 3 { m: list of u16; n: list of u8; }"
        )
        data = made(schema, 128, 1)
        for _ in range(3):
            push(schema, data, 1, "l", 1)
        push(schema, data, 1, "k", 1)
        for version, name, expected in ((1, "l", 3), (1, "k", 1), (2, "m", 3), (2, "l", 1), (3, "m", 3), (3, "n", 0)):
            with self.subTest(version=version, name=name):
                self.assertEqual(length(schema, data, 1, version, name), expected)
        for version, name in ((1, "m"), (2, "k"), (3, "l")):
            with self.assertRaises(BadField) as caught:
                length(schema, data, 1, version, name)
            self.assertEqual(caught.exception.reason, "no such list")

    def test_pushing_is_done_in_the_stored_version(self):
        schema = parse_schema("record r 1 { l: list of u8; } record r 2 { m was l: list of u16; }")
        data = made(schema, 128, 1)
        for name, error in (("m", BadField), ("l", OutOfRange)):
            with self.assertRaises(error):
                push(schema, data, 1, name, 256)


class Headers(unittest.TestCase):
    def test_fix_headers(self):
        data = made(TWO, 256, 1, 2, 3)
        for number in (1, 2, 3):
            push(TWO, data, number, "m", None)
            push(TWO, data, number, "l", number)
        pop(TWO, data, 3, "l")
        delete(TWO, data, 1)
        push_together(data)
        before = list(data)
        self.assertIsNone(fix_headers(TWO, data))
        places = {block[2:]: block[0] for block in blocks(data)}
        for number, many in ((2, 1), (3, 0)):
            body = places[(number, 1)] + 8
            self.assertEqual(header(data, body + 2), (many, places[(number, 128)] // 8 + 1 if many else 0))
            self.assertEqual(header(data, body + 6), (1, places[(number, 129)] // 8 + 1))
        self.assertEqual([block for block in blocks(data)], blocks(before))
        changed = [place for place in range(256) if data[place] != before[place]]
        headers = [places[(number, 1)] + 8 + place for number in (2, 3) for place in (4, 5, 8, 9)]
        self.assertEqual([place for place in changed if place not in headers], [])
        self.assertNotEqual(changed, [])

    def test_right_headers_stay(self):
        data = made(TWO, 256, 1, 2)
        push(TWO, data, 2, "l", 5)
        before = list(data)
        fix_headers(TWO, data)
        self.assertEqual(data, before)

    def test_each_record_has_the_lists_of_its_version(self):
        schema = parse_schema("record r 1 { l: list of u8; } record r 2 { a: u32; b: u32; l: list of u8; m: list of u8; }")
        data = made(schema, 256, 1)
        new_record(schema, data, "r", 2, 2)
        push(schema, data, 1, "l", 5)
        push(schema, data, 2, "m", 6)
        data[10:12] = [9, 9]
        data[34:36] = data[38:40] = [9, 9]
        fix_headers(schema, data)
        self.assertEqual(blocks(data)[:4], [(0, 16, 1, 1), (16, 24, 2, 2), (40, 16, 1, 128), (56, 16, 2, 129)])
        self.assertEqual(data[8:12], [1, 0, 6, 0])
        self.assertEqual(data[32:40], [0, 0, 0, 0, 1, 0, 8, 0])


if __name__ == "__main__":
    unittest.main()
