"""r6, r7, v1, v2: upgrading records with fields that are renamed, new, gone and wider, with lists, and without room."""

import unittest

from recstore.blocks import blocks, empty, take, used
from recstore.errors import Full
from recstore.lists import length, push
from recstore.records import delete, new_record, record_at, select, set_value, upgrade, value, values
from recstore.schema import parse_schema

TRADE = parse_schema(
    "struct s { x: u8; y: u16; } struct t { x: u16; z: u8; y: u16; } "
    "record q 1 { a: u32 = 7; } "
    "record r 1 { a: u8 = 1; b: i16; c: s; d: one of s; f: bits u8 { x 1, y 2 }; g: ref r; l: list of u8; m: list of s; }"
    "record r 2 { aa was a: u16 big = 11; b: i32; c: t; dd was d: one of s, t; f: bits u16 { y 3, x 2 }; new: i8 = -12;"
    " g: ref r; l: list of u16; }"
    "record r 3 { a: u8 = 21; b was aa: u32; c: t; d was dd: one of s, t; e: one of s; g: ref r; k was l: list of i32;"
    " m: list of t; }"
)


def made(schema, size, *records):
    """A store with new records, each told by name, version and number."""
    data = empty(size)
    for name, version, number in records:
        new_record(schema, data, name, version, number)
    return data


class Values(unittest.TestCase):
    def setUp(self):
        self.data = made(TRADE, 512, ("r", 1, 1), ("r", 2, 2), ("q", 1, 3))
        for path, new in (("b", -5), ("c.y", 700), ("f.y", 3), ("g", 2)):
            set_value(TRADE, self.data, 1, path, new)
        select(TRADE, self.data, 1, "d", "s")
        set_value(TRADE, self.data, 1, "d.s.x", 8)
        for number in (9, 10):
            push(TRADE, self.data, 1, "l", number)
        push(TRADE, self.data, 1, "m", None)
        set_value(TRADE, self.data, 1, "m.0.x", 77)

    def all(self, version):
        """All that is read of record 1 as a version, and of the others."""
        lists = {1: ("l", "m"), 2: ("l",), 3: ("k", "m")}[version]
        own = [values(TRADE, self.data, 1, version, path) for path in ("",) + lists]
        return own, values(TRADE, self.data, 2, 2, ""), values(TRADE, self.data, 3, 1, "")

    def test_to_the_next_version(self):
        before = [self.all(version) for version in (2, 3)]
        self.assertIsNone(upgrade(TRADE, self.data, 1, 2))
        self.assertEqual(record_at(TRADE, self.data, 1)[:2], ("r", 2))
        self.assertEqual([self.all(version) for version in (2, 3)], before)
        self.assertEqual(before[0][0], [
            [("aa", 1), ("b", -5), ("c.x", 0), ("c.z", 0), ("c.y", 700), ("dd", 1), ("dd.s.x", 8), ("dd.s.y", 0),
             ("f.y", 3), ("f.x", 0), ("new", -12), ("g", 2)],
            [("l.0", 9), ("l.1", 10)],
        ])

    def test_over_two_versions(self):
        before = self.all(3)
        upgrade(TRADE, self.data, 1, 3)
        self.assertEqual(record_at(TRADE, self.data, 1)[:2], ("r", 3))
        self.assertEqual(self.all(3), before)
        self.assertEqual(value(TRADE, self.data, 1, 3, "b"), 1)
        self.assertEqual((length(TRADE, self.data, 1, 3, "k"), length(TRADE, self.data, 1, 3, "m")), (2, 0))

    def test_step_by_step(self):
        other = list(self.data)
        upgrade(TRADE, self.data, 1, 2)
        upgrade(TRADE, self.data, 1, 3)
        upgrade(TRADE, other, 1, 3)
        for path in ("", "k", "m"):
            self.assertEqual(values(TRADE, self.data, 1, 3, path), values(TRADE, other, 1, 3, path))

    def test_all_bytes(self):
        upgrade(TRADE, self.data, 1, 2)
        body = record_at(TRADE, self.data, 1)[2]
        self.assertEqual(self.data[body - 8:body + 40], [
            6, 0, 2, 2, 1, 0, 0, 0,
            0, 1, 0, 0, 251, 255, 255, 255,   # aa, b
            0, 0, 0, 0, 188, 2, 1, 0,         # c.x, c.z, c.y, dd
            8, 0, 0, 0, 0, 0, 3, 0,           # dd.s.x, dd.s.y, nothing behind the shorter alternative, f
            244, 0, 0, 0, 2, 0, 0, 0,         # new, g
            2, 0, self.data[body + 34], 0, 0, 0, 0, 0,
        ])
        block = 8 * (self.data[body + 34] - 1)
        self.assertEqual(self.data[block:block + 16], [2, 0, 2, 128, 1, 0, 0, 0, 9, 0, 10, 0, 0, 0, 0, 0])

    def test_inactive_fields_are_0(self):
        select(TRADE, self.data, 1, "d", None)
        upgrade(TRADE, self.data, 1, 2)
        body = record_at(TRADE, self.data, 1)[2]
        self.assertEqual(self.data[body + 14:body + 22], [0] * 8)
        select(TRADE, self.data, 1, "dd", "t")
        set_value(TRADE, self.data, 1, "dd.t.y", 65535)
        upgrade(TRADE, self.data, 1, 3)
        self.assertEqual(values(TRADE, self.data, 1, 3, "d"), [("d", 2), ("d.t.x", 0), ("d.t.z", 0), ("d.t.y", 65535)])

    def test_references(self):
        upgrade(TRADE, self.data, 1, 2)
        self.assertEqual(value(TRADE, self.data, 1, 2, "g"), 2)
        set_value(TRADE, self.data, 2, "g", 1)
        upgrade(TRADE, self.data, 2, 3)
        self.assertEqual((value(TRADE, self.data, 1, 2, "g"), value(TRADE, self.data, 2, 3, "g")), (2, 1))

    def test_a_reference_to_itself(self):
        set_value(TRADE, self.data, 1, "g", 1)
        upgrade(TRADE, self.data, 1, 3)
        self.assertEqual(value(TRADE, self.data, 1, 3, "g"), 1)

    def test_references_to_nothing_become_0(self):
        delete(TRADE, self.data, 2)
        upgrade(TRADE, self.data, 1, 2)
        new_record(TRADE, self.data, "r", 1, 2)
        self.assertEqual(value(TRADE, self.data, 1, 2, "g"), 0)

    def test_later_initial_values_are_stored(self):
        upgrade(TRADE, self.data, 1, 2)
        self.assertEqual((value(TRADE, self.data, 1, 2, "new"), value(TRADE, self.data, 1, 3, "a")), (-12, 21))
        set_value(TRADE, self.data, 1, "new", 5)
        upgrade(TRADE, self.data, 1, 3)
        self.assertEqual(value(TRADE, self.data, 1, 3, "a"), 21)


class Lists(unittest.TestCase):
    SCHEMA = parse_schema(
        "struct s { x: i8; y: u16; } struct t { y: u32 big; new: u8; x: i16; }"
        "record r 1 { l: list of s; k: list of u8; } record r 2 { k: list of u8; m was l: list of t; } "
        "record r 3 { n was k: list of t; m: list of t; } record r 4 { o: list of u8; }"
    )

    def test_elements_are_written_anew(self):
        data = made(self.SCHEMA, 256, ("r", 1, 1))
        for item in range(3):
            push(self.SCHEMA, data, 1, "l", None)
            set_value(self.SCHEMA, data, 1, f"l.{item}.x", -1 - item)
            set_value(self.SCHEMA, data, 1, f"l.{item}.y", 258 + item)
        push(self.SCHEMA, data, 1, "k", 5)
        upgrade(self.SCHEMA, data, 1, 2)
        self.assertEqual(values(self.SCHEMA, data, 1, 2, "k"), [("k.0", 5)])
        self.assertEqual(blocks(data), [(0, 16, 1, 2), (16, 16, 1, 128), (32, 32, 1, 129), (64, 192, 0, 0)])
        self.assertEqual(data[8:16], [1, 0, 3, 0, 3, 0, 5, 0])
        self.assertEqual(data[32:64], [
            4, 0, 1, 129, 1, 0, 0, 0, 0, 0, 1, 2, 0, 0, 255, 255, 0, 0, 1, 3, 0, 0, 254, 255, 0, 0, 1, 4, 0, 0, 253, 255,
        ])

    def test_as_many_elements_though_none_of_their_fields_stays(self):
        data = made(self.SCHEMA, 256, ("r", 1, 1))
        push(self.SCHEMA, data, 1, "k", 5)
        push(self.SCHEMA, data, 1, "k", 6)
        upgrade(self.SCHEMA, data, 1, 3)
        self.assertEqual(values(self.SCHEMA, data, 1, 3, "n"), [
            ("n.0.y", 0), ("n.0.new", 0), ("n.0.x", 0), ("n.1.y", 0), ("n.1.new", 0), ("n.1.x", 0),
        ])
        self.assertEqual(blocks(data)[:2], [(0, 16, 1, 3), (16, 24, 1, 128)])

    def test_lists_that_are_gone_give_their_blocks_back(self):
        data = made(self.SCHEMA, 256, ("r", 1, 1))
        push(self.SCHEMA, data, 1, "k", 5)
        push(self.SCHEMA, data, 1, "l", None)
        upgrade(self.SCHEMA, data, 1, 4)
        self.assertEqual(data, made(self.SCHEMA, 256, ("r", 4, 1)))

    def test_references_of_elements(self):
        schema = parse_schema(
            "struct s { x: i8; } struct g { r: ref p; } struct h { r: ref p; u: one of s; } record p 1 { x: u8; }"
            "record r 1 { l: list of g; } record r 2 { l: list of h; }"
        )
        data = made(schema, 256, ("r", 1, 1), ("p", 1, 2), ("p", 1, 3))
        for item, to in enumerate((2, 3)):
            push(schema, data, 1, "l", None)
            set_value(schema, data, 1, f"l.{item}.r", to)
        delete(schema, data, 3)
        upgrade(schema, data, 1, 2)
        new_record(schema, data, "p", 1, 3)
        self.assertEqual(values(schema, data, 1, 2, "l"), [("l.0.r", 2), ("l.0.u", 0), ("l.1.r", 0), ("l.1.u", 0)])

    def test_tags_of_elements(self):
        schema = parse_schema(
            "struct s { x: u8; } struct t { y: u32; } struct g { u: one of s; } struct h { u: one of s, t; }"
            "record r 1 { l: list of g; } record r 2 { l: list of h; }"
        )
        data = made(schema, 128, ("r", 1, 1))
        for item in range(3):
            push(schema, data, 1, "l", None)
        select(schema, data, 1, "l.1.u", "s")
        set_value(schema, data, 1, "l.1.u.s.x", 7)
        upgrade(schema, data, 1, 2)
        self.assertEqual(values(schema, data, 1, 2, "l"), [("l.0.u", 0), ("l.1.u", 1), ("l.1.u.s.x", 7), ("l.2.u", 0)])
        self.assertEqual(data[16:48], [4, 0, 1, 128, 1] + [0] * 11 + [1, 0, 0, 0, 7] + [0] * 11)

    def test_sixty_elements(self):
        schema = parse_schema("record r 1 { l: list of u8; } record r 2 { l: list of u32; }")
        data = made(schema, 512, ("r", 1, 1))
        for count in range(60):
            push(schema, data, 1, "l", count)
        upgrade(schema, data, 1, 2)
        self.assertEqual([pair[1] for pair in values(schema, data, 1, 2, "l")], list(range(60)))
        self.assertEqual(blocks(data)[:2], [(0, 16, 1, 2), (16, 248, 1, 128)])


class Space(unittest.TestCase):
    SCHEMA = parse_schema(
        "record r 1 { a: u8 = 255; l: list of u8; m: list of u8; } "
        "record r 2 { a: u8; b: u32 = 1; m: list of u16; l: list of u8; } record p 1 { a: u32 = 9; l: list of u8; }"
    )

    def test_the_own_block_and_then_the_lists_in_order(self):
        data = made(self.SCHEMA, 128, ("r", 1, 1))
        push(self.SCHEMA, data, 1, "m", 5)
        push(self.SCHEMA, data, 1, "l", 6)
        self.assertEqual(blocks(data), [(0, 24, 1, 1), (24, 16, 1, 129), (40, 16, 1, 128), (56, 72, 0, 0)])
        upgrade(self.SCHEMA, data, 1, 2)
        self.assertEqual(blocks(data), [(0, 24, 1, 2), (24, 16, 1, 128), (40, 16, 1, 129), (56, 72, 0, 0)])
        self.assertEqual((values(self.SCHEMA, data, 1, 2, "m"), values(self.SCHEMA, data, 1, 2, "l")), ([("m.0", 5)], [("l.0", 6)]))

    def test_the_old_blocks_are_given_back_ahead(self):
        data = made(self.SCHEMA, 72, ("r", 1, 1))
        push(self.SCHEMA, data, 1, "m", 5)
        push(self.SCHEMA, data, 1, "l", 6)
        new_record(self.SCHEMA, data, "p", 1, 2)
        self.assertEqual(used(data), 72)
        upgrade(self.SCHEMA, data, 1, 2)
        self.assertEqual(blocks(data), [(0, 24, 1, 2), (24, 16, 1, 128), (40, 16, 1, 129), (56, 16, 2, 1)])

    def test_the_lowest_block_is_taken(self):
        data = made(self.SCHEMA, 128, ("p", 1, 1), ("r", 1, 2), ("p", 1, 3))
        delete(self.SCHEMA, data, 1)
        self.assertEqual(blocks(data), [(0, 16, 0, 0), (16, 24, 2, 1), (40, 16, 3, 1), (56, 72, 0, 0)])
        upgrade(self.SCHEMA, data, 2, 2)
        self.assertEqual(blocks(data), [(0, 24, 2, 2), (24, 16, 0, 0), (40, 16, 3, 1), (56, 72, 0, 0)])

    def test_headers_of_others_behind_blocks_that_move(self):
        data = made(self.SCHEMA, 96, ("p", 1, 1), ("r", 1, 2))
        push(self.SCHEMA, data, 2, "m", 4)
        push(self.SCHEMA, data, 1, "l", 3)
        new_record(self.SCHEMA, data, "p", 1, 9)
        for count in range(5, 9):
            push(self.SCHEMA, data, 2, "m", count)
        self.assertEqual(
            blocks(data),
            [(0, 16, 1, 1), (16, 24, 2, 1), (40, 16, 2, 129), (56, 16, 1, 128), (72, 16, 9, 1), (88, 8, 0, 0)],
        )
        upgrade(self.SCHEMA, data, 2, 2)
        # Its list needs 24 bytes, of which 16 and 8 were free.
        self.assertEqual(
            blocks(data), [(0, 16, 1, 1), (16, 24, 2, 2), (40, 16, 1, 128), (56, 16, 9, 1), (72, 24, 2, 128)],
        )
        self.assertEqual((data[12:16], data[32:40]), ([1, 0, 6, 0], [5, 0, 10, 0, 0, 0, 0, 0]))
        self.assertEqual([pair[1] for pair in values(self.SCHEMA, data, 2, 2, "m")], [4, 5, 6, 7, 8])
        self.assertEqual(values(self.SCHEMA, data, 1, 1, "l"), [("l.0", 3)])

    def test_full_and_nothing_changes(self):
        data = made(self.SCHEMA, 64, ("r", 1, 2))
        for count in range(8):
            push(self.SCHEMA, data, 2, "m", count)
        # The list needs one unit more as the new version.
        take(data, 3, 2, 1, 9)
        before = list(data)
        self.assertEqual(used(data), 64)
        with self.assertRaises(Full):
            upgrade(self.SCHEMA, data, 2, 2)
        self.assertEqual(data, before)

    def test_room_to_the_unit(self):
        data = made(self.SCHEMA, 64, ("r", 1, 2))
        for count in range(8):
            push(self.SCHEMA, data, 2, "m", count)
        take(data, 2, 2, 1, 9)
        upgrade(self.SCHEMA, data, 2, 2)
        self.assertEqual(blocks(data), [(0, 24, 2, 2), (24, 16, 9, 1), (40, 24, 2, 128)])

    def test_full_though_the_record_itself_has_room(self):
        schema = parse_schema("record r 1 { a: u8; l: list of u8; } record r 2 { a: u8; l: list of u32; }")
        data = made(schema, 64, ("r", 1, 1), ("r", 1, 2))
        for count in range(8):
            push(schema, data, 1, "l", count)
        before = list(data)
        with self.assertRaises(Full):
            upgrade(schema, data, 1, 2)
        self.assertEqual(data, before)
        delete(schema, data, 2)
        upgrade(schema, data, 1, 2)
        self.assertEqual(blocks(data), [(0, 16, 1, 2), (16, 40, 1, 128), (56, 8, 0, 0)])


if __name__ == "__main__":
    unittest.main()
