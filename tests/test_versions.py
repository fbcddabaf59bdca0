"""v1: sources and traces of fields, lists and fields of elements."""

import unittest

from recstore.layouts import layout
from recstore.schema import parse_schema
from recstore.versions import source, source_list, trace, trace_element, trace_list

SHIP = parse_schema(
    "struct s { x: u8; y: u16; } struct t { x: u16; z: u8; y: u16; }"
    "record q 1 { a: u32; } "
    "record r 1 { a: u8 = 1; b: u16 = 2; c: s; d: one of s; e: 2 of u8; f: bits u8 { x 1, y 2 }; g: ref q; }"
    "record r 2 { aa was a: u16 = 11; b: u32; c: t; dd was d: one of s, t; e: 4 of u16; f: bits u16 { y 3, z 1, x 2 };"
    " new: i8 = -12; }"
    "record q 2 { b was a: u32; a: u32 = 9; } "
    "record r 3 { a: u8 = 21; b was aa: u32 = 22; aa was b: u32 = 23; cc was c: t; d: s; f: s; new: i16 = 24; g: ref q; }"
)
LISTS = parse_schema(
    "struct s { x: u8; y: u16; } struct t { x: u16; z: u8; } struct v { x: u16; y: u16; }"
    "record r 1 { l: list of u8; k: list of s; w: u8 = 3; }"
    "record r 2 { m was l: list of u16; k: list of t; }"
    "record r 3 { l was m: list of u16; m was k: list of t; }"
    "record r 4 { l: list of u32; k was m: list of v; }"
)


class Source(unittest.TestCase):
    def check(self, version, path, expected, name="r"):
        with self.subTest(version=version, path=path):
            self.assertEqual(source(SHIP, name, version, path), expected)

    def test_fields_of_the_same_name(self):
        self.check(2, "b", ("field", "b"))
        self.check(3, "new", ("field", "new"))

    def test_fields_that_are_renamed(self):
        self.check(2, "aa", ("field", "a"))
        self.check(3, "b", ("field", "aa"))
        self.check(3, "aa", ("field", "b"))

    def test_new_fields(self):
        self.check(2, "new", ("initial", -12))
        self.check(3, "a", ("initial", 21))
        self.check(3, "g", ("initial", 0))

    def test_only_the_first_piece_is_renamed(self):
        self.check(2, "dd", ("field", "d"))
        self.check(2, "dd.s.x", ("field", "d.s.x"))
        self.check(2, "dd.t.z", ("initial", 0))
        self.check(3, "cc.z", ("field", "c.z"))

    def test_parts(self):
        self.check(2, "c.x", ("field", "c.x"))
        self.check(2, "c.y", ("field", "c.y"))
        self.check(2, "c.z", ("initial", 0))
        self.check(2, "e.1", ("field", "e.1"))
        self.check(2, "e.2", ("initial", 0))
        self.check(2, "f.x", ("field", "f.x"))
        self.check(2, "f.z", ("initial", 0))
        self.check(3, "f.y", ("field", "f.y"))

    def test_what_was_there_under_another_kind(self):
        self.check(3, "d.x", ("initial", 0))
        self.check(3, "f.x", ("field", "f.x"))

    def test_a_name_that_is_taken_by_another_field(self):
        self.check(2, "b", ("field", "a"), "q")
        self.check(2, "a", ("field", "a"), "q")

    def test_an_initial_value_holds_only_where_there_is_no_source(self):
        schema = parse_schema("record r 1 { a: u8 = 5; } record r 2 { a: u8 = 6; } record r 3 { b was a: u8 = 7; a: u8; }")
        self.assertEqual(source(schema, "r", 2, "a"), ("field", "a"))
        self.assertEqual(source(schema, "r", 3, "b"), ("field", "a"))
        self.assertEqual(source(schema, "r", 3, "a"), ("field", "a"))

    def test_a_renamed_field_whose_previous_one_is_of_another_kind(self):
        schema = parse_schema("struct s { x: u8; } record r 1 { a: s; l: list of u8; } record r 2 { b was a: u8 = 7; c was l: u8 = 8; }")
        self.assertEqual(source(schema, "r", 2, "b"), ("initial", 7))
        self.assertEqual(source(schema, "r", 2, "c"), ("initial", 8))

    def test_a_renamed_field_does_not_come_from_its_own_name(self):
        schema = parse_schema("record r 1 { a: u8; b: list of u8; } record r 2 { a was b: u8 = 4; }")
        self.assertEqual(source(schema, "r", 2, "a"), ("initial", 4))

    def test_an_initial_value_of_0_and_none(self):
        schema = parse_schema("record r 1 { a: u8; } record r 2 { b: u8 = 0; c: u8; d: i32 big = -5; }")
        self.assertEqual([source(schema, "r", 2, path) for path in "bcd"], [("initial", 0), ("initial", 0), ("initial", -5)])

    def test_a_struct_and_another_type_of_the_same_name_do_not_count(self):
        schema = parse_schema("record q 1 { z: u8; } struct r { z: u8; } record r 1 { a: u8; } record r 2 { z: u8 = 3; }")
        self.assertEqual(source(schema, "r", 2, "z"), ("initial", 3))


class Trace(unittest.TestCase):
    def check(self, version, path, older, expected):
        with self.subTest(version=version, path=path, older=older):
            self.assertEqual(trace(SHIP, "r", version, path, older), expected)

    def test_to_the_same_version(self):
        for version in (1, 2, 3):
            for field in layout(SHIP, "r", version)[2]:
                self.check(version, field[0], version, ("field", field[0]))

    def test_to_the_version_ahead_it_is_the_source(self):
        for version in (2, 3):
            for field in layout(SHIP, "r", version)[2]:
                self.check(version, field[0], version - 1, source(SHIP, "r", version, field[0]))

    def test_over_two_versions(self):
        for path, expected in (
            ("a", ("initial", 21)), ("b", ("field", "a")), ("aa", ("field", "b")), ("cc.x", ("field", "c.x")),
            ("cc.z", ("initial", 0)), ("cc.y", ("field", "c.y")), ("d.x", ("initial", 0)), ("f.x", ("field", "f.x")),
            ("f.y", ("field", "f.y")), ("new", ("initial", -12)), ("g", ("initial", 0)),
        ):
            self.check(3, path, 1, expected)

    def test_the_initial_value_that_is_met_first_holds(self):
        schema = parse_schema(
            "record r 1 { x: u8; } record r 2 { a: u8 = 2; } record r 3 { b was a: u8 = 3; } record r 4 { c was b: u8 = 4; x: u8 = 5; }"
        )
        self.assertEqual([trace(schema, "r", 4, "c", older) for older in (4, 3, 2, 1)],
                         [("field", "c"), ("field", "b"), ("field", "a"), ("initial", 2)])
        # The field of this name in version 1 is another one.
        self.assertEqual([trace(schema, "r", 4, "x", older) for older in (4, 3, 2, 1)],
                         [("field", "x"), ("initial", 5), ("initial", 5), ("initial", 5)])

    def test_names_that_change_places(self):
        schema = parse_schema(
            "record r 1 { a: u8; b: u8; } record r 2 { a was b: u8; b was a: u8; } record r 3 { b was a: u8; a was b: u8; }"
        )
        self.assertEqual(trace(schema, "r", 3, "a", 2), ("field", "b"))
        self.assertEqual(trace(schema, "r", 3, "a", 1), ("field", "a"))
        self.assertEqual(trace(schema, "r", 2, "a", 1), ("field", "b"))


class Lists(unittest.TestCase):
    def test_source_list(self):
        for version, name, expected in ((2, "m", "l"), (2, "k", "k"), (3, "l", "m"), (3, "m", "k"), (4, "l", "l"), (4, "k", "m")):
            with self.subTest(version=version, name=name):
                self.assertEqual(source_list(LISTS, "r", version, name), expected)

    def test_lists_without_source(self):
        schema = parse_schema("record r 1 { a: u8; l: list of u8; } record r 2 { a: list of u8; l was a: list of u8; }")
        self.assertIsNone(source_list(schema, "r", 2, "a"))
        self.assertIsNone(source_list(schema, "r", 2, "l"))
        self.assertIsNone(trace_list(schema, "r", 2, "l", 1))
        self.assertEqual(trace_list(schema, "r", 2, "l", 2), "l")
        schema = parse_schema("record r 1 { a: u8; } record r 2 { l: list of u8; } record r 3 { l: list of u8; }")
        self.assertEqual((trace_list(schema, "r", 3, "l", 2), trace_list(schema, "r", 3, "l", 1)), ("l", None))
        self.assertEqual(trace_element(schema, "r", 3, "l", "", 1), ("initial", 0))
        self.assertEqual(trace_element(schema, "r", 3, "l", "", 2), ("field", "l", ""))

    def test_a_list_that_was_away(self):
        schema = parse_schema("record r 1 { l: list of u8; } record r 2 { a: u8; } record r 3 { l: list of u8; }")
        self.assertIsNone(source_list(schema, "r", 3, "l"))
        self.assertIsNone(trace_list(schema, "r", 3, "l", 1))
        self.assertEqual(trace_element(schema, "r", 3, "l", "", 1), ("initial", 0))

    def test_trace_list(self):
        for version, name, names in ((4, "l", ("l", "l", "m", "l")), (4, "k", ("k", "m", "k", "k")), (3, "m", ("m", "k", "k"))):
            for place, expected in enumerate(names):
                with self.subTest(version=version, name=name, place=place):
                    self.assertEqual(trace_list(LISTS, "r", version, name, version - place), expected)

    def test_elements_of_words(self):
        self.assertEqual(trace_element(LISTS, "r", 4, "l", "", 4), ("field", "l", ""))
        self.assertEqual(trace_element(LISTS, "r", 4, "l", "", 2), ("field", "m", ""))
        self.assertEqual(trace_element(LISTS, "r", 4, "l", "", 1), ("field", "l", ""))

    def test_fields_of_elements(self):
        self.assertEqual(trace_element(LISTS, "r", 4, "k", "x", 3), ("field", "m", "x"))
        self.assertEqual(trace_element(LISTS, "r", 4, "k", "x", 1), ("field", "k", "x"))
        self.assertEqual(trace_element(LISTS, "r", 3, "m", "z", 2), ("field", "k", "z"))
        self.assertEqual(trace_element(LISTS, "r", 3, "m", "z", 1), ("initial", 0))

    def test_a_field_that_was_away_in_between(self):
        self.assertEqual(trace_element(LISTS, "r", 4, "k", "y", 4), ("field", "k", "y"))
        for older in (3, 2, 1):
            self.assertEqual(trace_element(LISTS, "r", 4, "k", "y", older), ("initial", 0))

    def test_elements_of_another_item(self):
        schema = parse_schema("struct s { x: u8; } record r 1 { l: list of u8; k: list of s; } record r 2 { l: list of s; k: list of u8; }")
        self.assertEqual(source_list(schema, "r", 2, "l"), "l")
        self.assertEqual(trace_element(schema, "r", 2, "l", "x", 1), ("initial", 0))
        self.assertEqual(trace_element(schema, "r", 2, "k", "", 1), ("initial", 0))


if __name__ == "__main__":
    unittest.main()
