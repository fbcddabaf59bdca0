"""p1, p2, c5: to which scalar fields paths lead, and paths into lists."""

import unittest

from recstore.errors import BadField
from recstore.layouts import layout
from recstore.paths import field_at, leads, split_list
from recstore.schema import parse_schema

SCHEMA = parse_schema(
    "struct grain { sort: u8; weight: u32 big; } struct ore { a: u8; b: bits u8 { lo 3, hi 5 }; }"
    "record ship 1 { tonnes: u16; tonne: u8; hold: one of grain, ore; marks: bits u8 { sail 1, crew 6 };"
    " row: 2 of ore; nums: 2 of u8; ports: list of u8; cargo: list of ore; self: ref ship; }"
)
SHIP = layout(SCHEMA, "ship", 1)
ALL = [
    "tonnes", "tonne", "hold", "hold.grain.sort", "hold.grain.weight", "hold.ore.a", "hold.ore.b.lo", "hold.ore.b.hi",
    "marks.sail", "marks.crew", "row.0.a", "row.0.b.lo", "row.0.b.hi", "row.1.a", "row.1.b.lo", "row.1.b.hi",
    "nums.0", "nums.1", "self",
]
WORD = SHIP[3][0][3]
ELEMENT = SHIP[3][1][3]


class Leads(unittest.TestCase):
    def check(self, path, expected, fields=SHIP[2]):
        with self.subTest(path=path):
            found = leads(fields, path)
            self.assertEqual([field[0] for field in found], expected)
            self.assertIsInstance(found, list)
            for field in found:
                self.assertIn(field, fields)

    def test_the_empty_path_leads_to_all(self):
        self.check("", ALL)
        self.check("", [""], WORD)
        self.check("", ["a", "b.lo", "b.hi"], ELEMENT)
        self.check("", [], ())

    def test_paths_of_fields(self):
        for path in ALL:
            if path != "hold":
                self.check(path, [path])

    def test_a_tag_and_what_is_within(self):
        self.check("hold", ALL[2:8])

    def test_beginnings_of_paths(self):
        self.check("hold.grain", ["hold.grain.sort", "hold.grain.weight"])
        self.check("hold.ore", ["hold.ore.a", "hold.ore.b.lo", "hold.ore.b.hi"])
        self.check("hold.ore.b", ["hold.ore.b.lo", "hold.ore.b.hi"])
        self.check("marks", ["marks.sail", "marks.crew"])
        self.check("row", ALL[10:16])
        self.check("row.1", ALL[13:16])
        self.check("row.1.b", ALL[14:16])
        self.check("nums", ["nums.0", "nums.1"])

    def test_only_whole_pieces_count(self):
        for path in ("tonn", "t", "hol", "hold.grai", "hold.grain.sor", "mark", "marks.s", "rows", "row.00", "tonness"):
            self.check(path, [])
        self.check("tonne", ["tonne"])

    def test_paths_that_go_too_far(self):
        for path in ("tonnes.x", "tonnes.0", "hold.grain.sort.x", "marks.sail.0", "nums.0.0", "self.tonnes"):
            self.check(path, [])

    def test_wrong_pieces(self):
        for path in ("grain", "hold.sort", "hold.0", "row.2", "row.a", "row.01", "nums.2", "nums.-1", "Tonnes", "x.tonnes"):
            self.check(path, [])

    def test_empty_pieces(self):
        for path in (".", "..", ".tonnes", "tonnes.", "hold..grain", "hold.", "hold.grain.", ".hold", "hold.grain..sort"):
            self.check(path, [])
            self.check(path, [], WORD)

    def test_spaces_are_no_dots(self):
        for path in (" ", "tonnes ", " tonnes", "hold grain", "hold .grain"):
            self.check(path, [])

    def test_a_list_is_no_scalar_field(self):
        for path in ("ports", "ports.0", "cargo", "cargo.0.a"):
            self.check(path, [])

    def test_long_paths(self):
        for path in ("a" * 200, ".".join(["a"] * 100), "tonnes" + ".x" * 97, "." * 200, "a" * 300):
            self.check(path, [])

    def test_the_fields_of_an_element(self):
        self.check("a", ["a"], ELEMENT)
        self.check("b", ["b.lo", "b.hi"], ELEMENT)
        self.check("b.hi", ["b.hi"], ELEMENT)
        self.check("c", [], ELEMENT)
        self.check("a", [], WORD)
        self.check("0", [], WORD)


class FieldAt(unittest.TestCase):
    def test_each_field(self):
        for field in SHIP[2]:
            with self.subTest(path=field[0]):
                self.assertEqual(field_at(SHIP[2], field[0]), field)

    def test_other_paths(self):
        for path in (
            "", "hold.grain", "marks", "row", "row.0", "nums", "ports", "ports.0", "cargo.0.a", "tonn", "tonnes.x",
            "tonnes.", ".tonnes", "hold..", ".", "x",
        ):
            with self.subTest(path=path):
                self.assertIsNone(field_at(SHIP[2], path))

    def test_the_tag_alone(self):
        self.assertEqual(field_at(SHIP[2], "hold")[7], "tag")

    def test_the_empty_path(self):
        self.assertEqual(field_at(WORD, ""), WORD[0])
        self.assertIsNone(field_at(ELEMENT, ""))
        self.assertIsNone(field_at((), ""))

    def test_the_fields_of_an_element(self):
        self.assertEqual(field_at(ELEMENT, "b.lo"), ELEMENT[1])
        self.assertIsNone(field_at(ELEMENT, "b"))
        self.assertIsNone(field_at(WORD, "0"))


class SplitList(unittest.TestCase):
    def refused(self, path):
        with self.subTest(path=path):
            with self.assertRaises(BadField) as caught:
                split_list(SHIP, path)
            self.assertEqual(caught.exception.reason, "no such field")

    def test_a_name_alone(self):
        self.assertEqual(split_list(SHIP, "ports"), (0, None, ""))
        self.assertEqual(split_list(SHIP, "cargo"), (1, None, ""))

    def test_an_index(self):
        for index in (0, 1, 9, 10, 59, 60, 100, 12345):
            with self.subTest(index=index):
                self.assertEqual(split_list(SHIP, "ports." + str(index)), (0, index, ""))
                self.assertEqual(split_list(SHIP, "cargo." + str(index)), (1, index, ""))

    def test_a_rest(self):
        self.assertEqual(split_list(SHIP, "cargo.3.a"), (1, 3, "a"))
        self.assertEqual(split_list(SHIP, "cargo.0.b.lo"), (1, 0, "b.lo"))
        self.assertEqual(split_list(SHIP, "ports.0.what.ever.0"), (0, 0, "what.ever.0"))

    def test_other_paths(self):
        for path in ("", "tonnes", "hold.grain", "row.0", "port", "portss", "x.ports", "x", ".", "..", ".ports", "0", "x..y", "hold."):
            with self.subTest(path=path):
                self.assertIsNone(split_list(SHIP, path))

    def test_second_pieces_that_are_no_index(self):
        for piece in ("a", "00", "01", "010", "-1", "+1", "1a", "0x1", " 0", "0 ", "1_0", "-0", "\u0661", "\u00b2", "ports", "#", "1Q", "Q", "z"):
            self.refused("ports." + piece)
            self.refused("cargo." + piece + ".a")

    def test_empty_pieces(self):
        for path in ("ports.", "ports..", "ports..0", "ports.0.", "cargo.0..a", "cargo.0.a.", "cargo..a", "cargo.1.b..lo"):
            self.refused(path)

    def test_layouts_without_lists(self):
        plain = layout(parse_schema("record r 1 { ports: u8; }"), "r", 1)
        self.assertIsNone(split_list(plain, "ports"))
        self.assertIsNone(split_list(plain, "ports..x"))

    def test_the_index_of_the_list_is_that_in_the_layout(self):
        turned = layout(parse_schema("record r 1 { z: list of u8; x: u8; a: list of u8; }"), "r", 1)
        self.assertEqual((split_list(turned, "z.4"), split_list(turned, "a.4")), ((0, 4, ""), (1, 4, "")))


if __name__ == "__main__":
    unittest.main()
