"""r1, r2, r3, r5, v2, c8: new records, their values read as the stored version and as newer ones, deleting."""

import unittest

from recstore.blocks import blocks, empty, give_back, take, used
from recstore.errors import BadField, Full
from recstore.lists import push
from recstore.records import delete, new_record, record_at, select, set_value, units, value, values
from recstore.schema import parse_schema

SHIP = parse_schema(
    "struct grain { sort: u8; weight: u32 big; } struct ore { a: u8; b: bits u8 { lo 3, hi 5 }; }"
    "struct pair { x: i16; y: u8; } struct link { to: ref ship; sel: one of grain, ore; }"
    "record port 1 { depth: u8 = 9; }"
    "record ship 1 { tonnes: u16 big = 258; temp: i8 = -2; hold: one of grain, ore; marks: bits u16 big { sail 1, crew 6 };"
    " row: 2 of pair; next: ref ship; home: ref port; ports: list of u16; cargo: list of link; }"
)
TRADE = parse_schema(
    "struct s { x: u8; y: u16; } struct t { x: u16; z: u8; y: u16; } struct k { d: one of s; }"
    "record q 1 { a: u32 = 7; } "
    "record r 1 { a: u8 = 1; b: i16; c: s; d: one of s; f: bits u8 { x 1, y 2 }; g: ref r; l: list of u8; m: list of s; }"
    "record r 2 { aa was a: u16 big = 11; b: i32; c: t; dd was d: one of s, t; f: bits u16 { y 3, x 2 }; new: i8 = -12;"
    " g: ref r; l: list of u16; }"
    "record r 3 { a: u8 = 21; b was aa: u32; c: t; d was dd: one of s, t; e: one of s; g: ref r; k was l: list of i32;"
    " m: list of t; }"
)


def made(schema, size, *records):
    """A store with new records, each told by name, version and number."""
    data = empty(size)
    for name, version, number in records:
        new_record(schema, data, name, version, number)
    return data


class Case(unittest.TestCase):
    def refused(self, reason, call, *arguments):
        before = [list(item) if isinstance(item, list) else item for item in arguments]
        with self.subTest(reason=reason, arguments=arguments[2:]):
            with self.assertRaises(BadField) as caught:
                call(*arguments)
            self.assertEqual(caught.exception.reason, reason)
            self.assertEqual(list(arguments), before)


class Units(unittest.TestCase):
    def test_units(self):
        for size, expected in ((0, 1), (1, 2), (7, 2), (8, 2), (9, 3), (16, 3), (17, 4), (63, 9), (64, 9), (65, 10), (480, 61)):
            with self.subTest(size=size):
                self.assertEqual(units(size), expected)


class NewRecords(Case):
    def test_all_bytes_of_a_new_record(self):
        schema = parse_schema("record q 1 { x: u8; } record r 1 { a: u8 = 5; b: u16 = 258; c: i32 big = -2; d: u8; }")
        data = made(schema, 64, ("r", 1, 300))
        self.assertEqual(
            data,
            [3, 0, 2, 1, 44, 1, 0, 0] + [5, 0, 2, 1, 255, 255, 255, 254, 0, 0, 0, 0] + [0] * 4 + [5] + [0] * 39,
        )

    def test_each_version_has_its_own_initial_values(self):
        schema = parse_schema(
            "record r 1 { a: u8 = 5; b: u8; } record r 2 { a: u8 = 6; b: u16 = 7; } record r 3 { c was a: i16 big = -1; b: u16; }"
        )
        self.assertEqual(made(schema, 64, ("r", 1, 1))[:16], [2, 0, 1, 1, 1, 0, 0, 0, 5, 0, 0, 0, 0, 0, 0, 0])
        self.assertEqual(made(schema, 64, ("r", 2, 1))[:16], [2, 0, 1, 2, 1, 0, 0, 0, 6, 0, 7, 0, 0, 0, 0, 0])
        self.assertEqual(made(schema, 64, ("r", 3, 1))[:16], [2, 0, 1, 3, 1, 0, 0, 0, 255, 255, 0, 0, 0, 0, 0, 0])

    def test_sizes_of_blocks(self):
        for size in (1, 7, 8, 9, 15, 16, 17, 24):
            schema = parse_schema("record r 1 { " + " ".join([f"f{index}: u8;" for index in range(size)]) + " }")
            with self.subTest(size=size):
                data = made(schema, 64, ("r", 1, 1))
                self.assertEqual(blocks(data)[0], (0, 8 + (size + 7) // 8 * 8, 1, 1))

    def test_all_else_is_0(self):
        data = made(SHIP, 128, ("ship", 1, 1))
        body = data[8:56]
        self.assertEqual(body[:3], [1, 2, 254])
        self.assertEqual(body[3:], [0] * 45)

    def test_what_is_read_of_a_new_record(self):
        data = made(SHIP, 128, ("ship", 1, 1), ("port", 1, 2))
        self.assertEqual(values(SHIP, data, 1, 1, ""), [
            ("tonnes", 258), ("temp", -2), ("hold", 0), ("marks.sail", 0), ("marks.crew", 0), ("row.0.x", 0),
            ("row.0.y", 0), ("row.1.x", 0), ("row.1.y", 0), ("next", 0), ("home", 0),
        ])
        self.assertEqual((values(SHIP, data, 1, 1, "ports"), values(SHIP, data, 1, 1, "cargo")), ([], []))
        self.assertEqual(values(SHIP, data, 2, 1, ""), [("depth", 9)])

    def test_types_are_numbered_in_order(self):
        data = made(SHIP, 128, ("ship", 1, 1), ("port", 1, 2))
        self.assertEqual([data[block[0] + 2] for block in blocks(data)], [2, 1, 0])

    def test_the_lowest_block_is_taken(self):
        schema = parse_schema("record r 1 { a: u8 = 5; }")
        data = made(schema, 64, ("r", 1, 1), ("r", 1, 2), ("r", 1, 3))
        delete(schema, data, 1)
        new_record(schema, data, "r", 1, 4)
        self.assertEqual([block[2] for block in blocks(data)], [4, 2, 3, 0])

    def test_headers_behind_blocks_that_move(self):
        schema = parse_schema("record r 1 { a: u8; l: list of u8; } record wide 1 { a: 6 of u32; }")
        data = made(schema, 72, ("r", 1, 1), ("r", 1, 2))
        push(schema, data, 2, "l", 77)
        delete(schema, data, 1)
        self.assertEqual([block[2:] for block in blocks(data)], [(0, 0), (2, 1), (2, 128), (0, 0)])
        new_record(schema, data, "wide", 1, 3)
        self.assertEqual(blocks(data), [(0, 16, 2, 1), (16, 16, 2, 128), (32, 32, 3, 1), (64, 8, 0, 0)])
        # The header is at 2 in the body: one element, the block at 16.
        self.assertEqual(data[8:16], [0, 0, 1, 0, 3, 0, 0, 0])
        self.assertEqual(values(schema, data, 2, 1, "l"), [("l.0", 77)])

    def test_full_to_the_unit(self):
        schema = parse_schema("record r 1 { a: 6 of u8; } record s 1 { a: u32; b: u32; c: u32; }")
        data = made(schema, 72, *[("r", 1, number) for number in (1, 2, 3, 4)])
        before = list(data)
        with self.assertRaises(Full):
            new_record(schema, data, "r", 1, 5)
        self.assertEqual(data, before)
        delete(schema, data, 2)
        before = list(data)
        new_record(schema, data, "s", 1, 6)
        self.assertEqual(used(data), 72)
        data = list(before)
        give_back(data, 0)
        new_record(schema, data, "s", 1, 6)
        self.assertEqual((used(data), blocks(data)[0]), (56, (0, 24, 6, 1)))

    def test_room_that_lies_in_pieces(self):
        schema = parse_schema("record r 1 { a: u8; } record s 1 { a: u32; b: u32; c: u32; d: u32; e: u32; f: u32; }")
        data = made(schema, 64, *[("r", 1, number) for number in (1, 2, 3, 4)])
        delete(schema, data, 1)
        delete(schema, data, 3)
        before = list(data)
        new_record(schema, data, "s", 1, 5)
        self.assertEqual(blocks(data), [(0, 16, 2, 1), (16, 16, 4, 1), (32, 32, 5, 1)])
        data = list(before)
        take(data, 1, 1, 128, 2)
        before = list(data)
        with self.assertRaises(Full):
            new_record(schema, data, "s", 1, 5)
        self.assertEqual(data, before)


class RecordAt(unittest.TestCase):
    def test_records(self):
        data = made(TRADE, 256, ("r", 2, 5), ("q", 1, 9999), ("r", 1, 3))
        self.assertEqual(record_at(TRADE, data, 5), ("r", 2, 8))
        places = {block[2]: block[0] + 8 for block in blocks(data)}
        self.assertEqual(record_at(TRADE, data, 9999), ("q", 1, places[9999]))
        self.assertEqual(record_at(TRADE, data, 3), ("r", 1, places[3]))

    def test_no_record(self):
        data = made(TRADE, 256, ("r", 2, 5))
        for number in (0, 1, 4, 6, 9999):
            self.assertIsNone(record_at(TRADE, data, number))

    def test_list_blocks_are_no_records(self):
        data = empty(64)
        take(data, 2, 1, 128, 3)
        self.assertIsNone(record_at(TRADE, data, 3))
        data = made(SHIP, 256, ("ship", 1, 7))
        push(SHIP, data, 7, "ports", 1)
        self.assertEqual(record_at(SHIP, data, 7), ("ship", 1, 8))
        give_back(data, 0)
        self.assertIsNone(record_at(SHIP, data, 7))


class Reading(Case):
    def setUp(self):
        self.data = made(SHIP, 512, ("ship", 1, 1), ("ship", 1, 2), ("port", 1, 3))

    def read(self, path, number=1):
        return values(SHIP, self.data, number, 1, path)

    def one(self, path, number=1):
        return value(SHIP, self.data, number, 1, path)

    def put(self, path, new, number=1):
        set_value(SHIP, self.data, number, path, new)

    def test_words_bits_and_rows(self):
        self.put("tonnes", 65535)
        self.put("temp", -128)
        self.put("marks.crew", 63)
        self.put("row.1.x", -300)
        self.assertEqual(self.read("marks"), [("marks.sail", 0), ("marks.crew", 63)])
        self.assertEqual(self.read("row"), [("row.0.x", 0), ("row.0.y", 0), ("row.1.x", -300), ("row.1.y", 0)])
        self.assertEqual(self.read("row.1"), [("row.1.x", -300), ("row.1.y", 0)])
        self.assertEqual(self.read("row.1.x"), [("row.1.x", -300)])
        self.assertEqual(
            [self.one(path) for path in ("tonnes", "temp", "marks.crew", "marks.sail", "row.1.x", "row.0.x")],
            [65535, -128, 63, 0, -300, 0],
        )

    def test_alternatives(self):
        self.assertEqual(self.read("hold"), [("hold", 0)])
        select(SHIP, self.data, 1, "hold", "ore")
        self.put("hold.ore.b.hi", 31)
        self.assertEqual(
            self.read("hold"), [("hold", 2), ("hold.ore.a", 0), ("hold.ore.b.lo", 0), ("hold.ore.b.hi", 31)],
        )
        self.assertEqual(self.read("hold.ore.b"), [("hold.ore.b.lo", 0), ("hold.ore.b.hi", 31)])
        self.assertEqual((self.one("hold"), self.one("hold.ore.b.hi")), (2, 31))
        select(SHIP, self.data, 1, "hold", "grain")
        self.assertEqual(self.read("hold"), [("hold", 1), ("hold.grain.sort", 0), ("hold.grain.weight", 0)])

    def test_not_active(self):
        for path in ("hold.grain.sort", "hold.ore.b.lo"):
            self.refused("not active", value, SHIP, self.data, 1, 1, path)
        for path in ("hold.grain", "hold.grain.sort", "hold.ore", "hold.ore.b"):
            self.refused("not active", values, SHIP, self.data, 1, 1, path)
        select(SHIP, self.data, 1, "hold", "ore")
        self.refused("not active", value, SHIP, self.data, 1, 1, "hold.grain.sort")
        self.refused("not active", values, SHIP, self.data, 1, 1, "hold.grain")
        self.assertEqual(self.one("hold.ore.a"), 0)

    def test_no_such_field(self):
        paths = (
            "x", "tonne", "tonnes.x", "hold.x", "hold.grain.x", "marks.x", "row.2", "row.2.x", "row.00.x", ".", "tonnes.",
            ".tonnes", "row..x", "port", "ports.", "ports.x", "ports.00", "ports.0.x", "ports.0.", "cargo.0.x",
            "cargo.x.to", "cargo..to", "cargo.0.sel.x", "x" * 200, "Tonnes",
        )
        for path in paths:
            self.refused("no such field", value, SHIP, self.data, 1, 1, path)
            self.refused("no such field", values, SHIP, self.data, 1, 1, path)

    def test_no_such_field_of_a_call_for_one_field(self):
        push(SHIP, self.data, 1, "cargo", None)
        for path in ("", "marks", "row", "row.0", "hold.grain", "ports", "cargo", "cargo.0", "cargo.7", "cargo.0.sel.ore"):
            self.refused("no such field", value, SHIP, self.data, 1, 1, path)

    def test_no_such_element(self):
        for path in ("ports.0", "ports.59", "cargo.0.to", "cargo.3.sel.grain.sort"):
            self.refused("no such element", value, SHIP, self.data, 1, 1, path)
            self.refused("no such element", values, SHIP, self.data, 1, 1, path)
        self.refused("no such element", values, SHIP, self.data, 1, 1, "cargo.0")
        push(SHIP, self.data, 1, "ports", 5)
        self.assertEqual((self.read("ports.0"), self.one("ports.0")), ([("ports.0", 5)], 5))
        self.refused("no such element", value, SHIP, self.data, 1, 1, "ports.1")
        self.refused("no such element", values, SHIP, self.data, 1, 1, "ports.60")

    def test_a_wrong_field_ahead_of_a_wrong_index(self):
        self.refused("no such field", value, SHIP, self.data, 1, 1, "cargo.9.x")
        self.refused("no such field", values, SHIP, self.data, 1, 1, "ports.9.x")

    def test_a_wrong_index_ahead_of_what_is_not_active(self):
        self.refused("no such element", value, SHIP, self.data, 1, 1, "cargo.0.sel.grain.sort")
        push(SHIP, self.data, 1, "cargo", None)
        self.refused("not active", value, SHIP, self.data, 1, 1, "cargo.0.sel.grain.sort")
        self.refused("not active", values, SHIP, self.data, 1, 1, "cargo.0.sel.grain")

    def test_elements(self):
        for number in (300, 7):
            push(SHIP, self.data, 1, "ports", number)
        for _ in range(3):
            push(SHIP, self.data, 1, "cargo", None)
        select(SHIP, self.data, 1, "cargo.1.sel", "grain")
        self.put("cargo.1.sel.grain.weight", 99)
        self.put("cargo.2.to", 2)
        self.assertEqual(self.read("ports"), [("ports.0", 300), ("ports.1", 7)])
        self.assertEqual(self.read("cargo"), [
            ("cargo.0.to", 0), ("cargo.0.sel", 0), ("cargo.1.to", 0), ("cargo.1.sel", 1), ("cargo.1.sel.grain.sort", 0),
            ("cargo.1.sel.grain.weight", 99), ("cargo.2.to", 2), ("cargo.2.sel", 0),
        ])
        self.assertEqual(self.read("cargo.2"), [("cargo.2.to", 2), ("cargo.2.sel", 0)])
        self.assertEqual(self.read("cargo.1.sel.grain"), [("cargo.1.sel.grain.sort", 0), ("cargo.1.sel.grain.weight", 99)])
        self.assertEqual((self.one("cargo.1.sel.grain.weight"), self.one("ports.1"), self.one("cargo.2.to")), (99, 7, 2))
        self.refused("not active", value, SHIP, self.data, 1, 1, "cargo.0.sel.grain.weight")

    def test_the_empty_path_does_not_lead_into_lists(self):
        push(SHIP, self.data, 1, "ports", 300)
        self.assertEqual(len(self.read("")), 11)

    def test_a_record_of_lists_alone(self):
        schema = parse_schema("record r 1 { l: list of u8; }")
        data = made(schema, 64, ("r", 1, 1))
        self.assertEqual((values(schema, data, 1, 1, ""), values(schema, data, 1, 1, "l")), ([], []))
        push(schema, data, 1, "l", 3)
        self.assertEqual((values(schema, data, 1, 1, ""), values(schema, data, 1, 1, "l")), ([], [("l.0", 3)]))

    def test_references(self):
        self.put("next", 2)
        self.put("home", 3)
        self.assertEqual((self.one("next"), self.one("home")), (2, 3))
        self.put("next", 1)
        self.assertEqual(self.read("next"), [("next", 1)])

    def test_references_to_records_that_are_gone(self):
        self.put("next", 2)
        self.put("home", 3)
        stored = list(self.data)
        delete(SHIP, self.data, 2)
        self.assertEqual((self.one("next"), self.one("home")), (0, 3))
        self.assertEqual(self.data[:56], stored[:56])
        delete(SHIP, self.data, 3)
        self.assertEqual((self.read("next"), self.one("home")), ([("next", 0)], 0))
        self.assertEqual(self.data[:56], stored[:56])

    def test_references_to_records_of_other_types(self):
        self.put("next", 2)
        delete(SHIP, self.data, 2)
        new_record(SHIP, self.data, "port", 1, 2)
        self.assertEqual(self.one("next"), 0)
        delete(SHIP, self.data, 2)
        new_record(SHIP, self.data, "ship", 1, 2)
        self.assertEqual(self.one("next"), 2)

    def test_references_in_alternatives(self):
        schema = parse_schema(
            "struct a { r: ref p; } struct b { u: one of a; } record p 1 { x: u8; } record q 1 { b: b; n: 2 of b; }"
        )
        data = made(schema, 128, ("p", 1, 1), ("q", 1, 2))
        for path in ("b", "n.1"):
            select(schema, data, 2, path + ".u", "a")
            set_value(schema, data, 2, path + ".u.a.r", 1)
        self.assertEqual(values(schema, data, 2, 1, ""), [("b.u", 1), ("b.u.a.r", 1), ("n.0.u", 0), ("n.1.u", 1), ("n.1.u.a.r", 1)])
        delete(schema, data, 1)
        self.assertEqual(value(schema, data, 2, 1, "n.1.u.a.r"), 0)

    def test_nothing_changes_and_what_is_returned_is_new(self):
        before = list(self.data)
        found = self.read("")
        found.append(1)
        self.assertEqual(len(self.read("")), 11)
        self.assertEqual(self.data, before)

    def test_the_example_of_the_document(self):
        schema = parse_schema("record ship 1 { tonnes: u16 = 100; marks: bits u8 { sail 1, crew 6 }; ports: list of u8; }")
        data = made(schema, 64, ("ship", 1, 1))
        self.assertEqual(push(schema, data, 1, "ports", 7), 1)
        set_value(schema, data, 1, "marks.crew", 33)
        self.assertEqual(values(schema, data, 1, 1, ""), [("tonnes", 100), ("marks.sail", 0), ("marks.crew", 33)])
        self.assertEqual(values(schema, data, 1, 1, "ports"), [("ports.0", 7)])
        self.assertEqual(data[8:16], [100, 0, 66, 0, 1, 0, 3, 0])


class Versions(Case):
    def setUp(self):
        self.data = made(TRADE, 512, ("r", 1, 1), ("r", 2, 2), ("r", 3, 3))
        set_value(TRADE, self.data, 1, "b", -5)
        set_value(TRADE, self.data, 1, "c.y", 700)
        select(TRADE, self.data, 1, "d", "s")
        set_value(TRADE, self.data, 1, "d.s.x", 8)
        set_value(TRADE, self.data, 1, "f.y", 3)
        set_value(TRADE, self.data, 1, "g", 2)
        for number in (9, 10):
            push(TRADE, self.data, 1, "l", number)
        push(TRADE, self.data, 1, "m", None)
        set_value(TRADE, self.data, 1, "m.0.x", 77)

    def test_as_the_stored_version(self):
        self.assertEqual(values(TRADE, self.data, 1, 1, ""), [
            ("a", 1), ("b", -5), ("c.x", 0), ("c.y", 700), ("d", 1), ("d.s.x", 8), ("d.s.y", 0), ("f.x", 0), ("f.y", 3),
            ("g", 2),
        ])
        self.assertEqual(values(TRADE, self.data, 1, 1, "m"), [("m.0.x", 77), ("m.0.y", 0)])

    def test_as_the_next_version(self):
        self.assertEqual(values(TRADE, self.data, 1, 2, ""), [
            ("aa", 1), ("b", -5), ("c.x", 0), ("c.z", 0), ("c.y", 700), ("dd", 1), ("dd.s.x", 8), ("dd.s.y", 0),
            ("f.y", 3), ("f.x", 0), ("new", -12), ("g", 2),
        ])
        self.assertEqual(values(TRADE, self.data, 1, 2, "l"), [("l.0", 9), ("l.1", 10)])
        self.refused("no such field", values, TRADE, self.data, 1, 2, "m")

    def test_over_two_versions(self):
        self.assertEqual(values(TRADE, self.data, 1, 3, ""), [
            ("a", 21), ("b", 1), ("c.x", 0), ("c.z", 0), ("c.y", 700), ("d", 1), ("d.s.x", 8), ("d.s.y", 0), ("e", 0), ("g", 2),
        ])
        self.assertEqual(values(TRADE, self.data, 1, 3, "k"), [("k.0", 9), ("k.1", 10)])
        # Version 2 has no list m, so that the one of version 3 has no elements.
        self.assertEqual(values(TRADE, self.data, 1, 3, "m"), [])
        self.refused("no such element", values, TRADE, self.data, 1, 3, "m.0")
        self.refused("no such element", value, TRADE, self.data, 1, 3, "m.0.x")

    def test_one_field(self):
        for version, path, expected in (
            (2, "aa", 1), (2, "new", -12), (3, "a", 21), (3, "b", 1), (3, "d.s.x", 8), (3, "k.1", 10), (2, "l.0", 9),
            (2, "f.x", 0), (3, "g", 2),
        ):
            with self.subTest(version=version, path=path):
                self.assertEqual(value(TRADE, self.data, 1, version, path), expected)

    def test_refusals_are_those_of_the_version_read(self):
        self.refused("no such field", value, TRADE, self.data, 1, 2, "a")
        self.refused("no such field", value, TRADE, self.data, 1, 3, "aa")
        self.refused("no such field", value, TRADE, self.data, 1, 3, "l.0")
        self.refused("no such element", value, TRADE, self.data, 1, 3, "k.2")
        self.refused("not active", value, TRADE, self.data, 1, 2, "dd.t.x")
        self.refused("not active", value, TRADE, self.data, 1, 3, "e.s.x")
        select(TRADE, self.data, 1, "d", None)
        self.refused("not active", value, TRADE, self.data, 1, 3, "d.s.x")
        self.refused("not active", values, TRADE, self.data, 1, 2, "dd.s")

    def test_what_was_stored_as_a_newer_version(self):
        self.assertEqual(value(TRADE, self.data, 2, 2, "aa"), 11)
        self.assertEqual(value(TRADE, self.data, 2, 3, "b"), 11)
        self.assertEqual(value(TRADE, self.data, 2, 3, "a"), 21)
        self.assertEqual(value(TRADE, self.data, 3, 3, "b"), 0)
        push(TRADE, self.data, 2, "l", 65535)
        self.assertEqual(values(TRADE, self.data, 2, 3, "k"), [("k.0", 65535)])

    def test_references_read_as_newer_versions(self):
        delete(TRADE, self.data, 2)
        for version in (1, 2, 3):
            self.assertEqual(value(TRADE, self.data, 1, version, "g"), 0)
        new_record(TRADE, self.data, "q", 1, 2)
        for version in (1, 2, 3):
            self.assertEqual(value(TRADE, self.data, 1, version, "g"), 0)

    def test_references_that_are_renamed(self):
        schema = parse_schema(
            "struct s { to: ref p; } record p 1 { x: u8; } record r 1 { a: ref p; l: list of s; b: s; }"
            "record r 2 { b was a: ref p; m was l: list of s; a was b: s; }"
        )
        data = made(schema, 128, ("r", 1, 1), ("p", 1, 2), ("r", 1, 3))
        push(schema, data, 1, "l", None)
        for path in ("a", "b.to", "l.0.to"):
            set_value(schema, data, 1, path, 2)
        for known in (2, 0):
            self.assertEqual(values(schema, data, 1, 2, ""), [("b", known), ("a.to", known)])
            self.assertEqual(values(schema, data, 1, 2, "m"), [("m.0.to", known)])
            delete(schema, data, 2)

    def test_fields_of_elements_read_as_newer_versions(self):
        schema = parse_schema(
            "struct s { x: i8; y: u16; } struct t { y: u32 big; new: u8; x: i32; } struct v { x: i32; }"
            "record r 1 { l: list of s; k: list of u8; } record r 2 { m was l: list of t; k: list of v; }"
            "record r 3 { m: list of v; }"
        )
        data = made(schema, 128, ("r", 1, 1))
        for number in (1, 2):
            push(schema, data, 1, "l", None)
            set_value(schema, data, 1, f"l.{number - 1}.x", -number)
            set_value(schema, data, 1, f"l.{number - 1}.y", 300 + number)
        push(schema, data, 1, "k", 5)
        self.assertEqual(values(schema, data, 1, 2, "m"), [
            ("m.0.y", 301), ("m.0.new", 0), ("m.0.x", -1), ("m.1.y", 302), ("m.1.new", 0), ("m.1.x", -2),
        ])
        # As many elements as there were, though none of their fields is traced back.
        self.assertEqual(values(schema, data, 1, 2, "k"), [("k.0.x", 0)])
        self.assertEqual(values(schema, data, 1, 3, "m"), [("m.0.x", -1), ("m.1.x", -2)])
        self.assertEqual(value(schema, data, 1, 3, "m.1.x"), -2)

    def test_lists_that_change_places(self):
        schema = parse_schema(
            "record r 1 { a: list of u8; b: list of u8; } record r 2 { b was a: list of u8; a was b: list of u8; }"
        )
        data = made(schema, 128, ("r", 1, 1))
        push(schema, data, 1, "a", 5)
        push(schema, data, 1, "b", 6)
        push(schema, data, 1, "b", 7)
        self.assertEqual(values(schema, data, 1, 2, "b"), [("b.0", 5)])
        self.assertEqual(values(schema, data, 1, 2, "a"), [("a.0", 6), ("a.1", 7)])

    def test_tags_of_elements_read_as_newer_versions(self):
        schema = parse_schema(
            "struct s { x: u8; } struct t { y: u8; } struct v { u: one of s; } struct w { z: u8; u: one of s, t; }"
            "record r 1 { l: list of v; } record r 2 { l: list of w; }"
        )
        data = made(schema, 128, ("r", 1, 1))
        push(schema, data, 1, "l", None)
        push(schema, data, 1, "l", None)
        select(schema, data, 1, "l.1.u", "s")
        set_value(schema, data, 1, "l.1.u.s.x", 9)
        self.assertEqual(
            values(schema, data, 1, 2, "l"),
            [("l.0.z", 0), ("l.0.u", 0), ("l.1.z", 0), ("l.1.u", 1), ("l.1.u.s.x", 9)],
        )
        self.refused("not active", values, schema, data, 1, 2, "l.1.u.t")
        self.refused("not active", value, schema, data, 1, 2, "l.0.u.s.x")


class Deleting(Case):
    def test_all_bytes(self):
        schema = parse_schema("record r 1 { a: u8 = 5; l: list of u8; m: list of u16; }")
        data = made(schema, 128, ("r", 1, 1), ("r", 1, 2))
        one = list(data)
        new_record(schema, data, "r", 1, 3)
        for name in ("l", "m"):
            push(schema, data, 3, name, 9)
        self.assertIsNone(delete(schema, data, 3))
        self.assertEqual(data, one)

    def test_blocks_of_others_stay(self):
        schema = parse_schema("record r 1 { a: u8 = 5; l: list of u8; }")
        data = made(schema, 128, ("r", 1, 1), ("r", 1, 2))
        for number in (1, 2, 1, 2):
            push(schema, data, number, "l", number)
        self.assertEqual([block[2:] for block in blocks(data)], [(1, 1), (2, 1), (1, 128), (2, 128), (0, 0)])
        before = list(data)
        delete(schema, data, 1)
        self.assertEqual(blocks(data), [(0, 16, 0, 0), (16, 16, 2, 1), (32, 16, 0, 0), (48, 16, 2, 128), (64, 64, 0, 0)])
        self.assertEqual(data, [2] + [0] * 15 + before[16:32] + [2] + [0] * 15 + before[48:])
        self.assertEqual(values(schema, data, 2, 1, "l"), [("l.0", 2), ("l.1", 2)])
        self.assertIsNone(record_at(schema, data, 1))


if __name__ == "__main__":
    unittest.main()
