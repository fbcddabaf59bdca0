"""k5: the written form of schemas, and that it is read as the same schema."""

import unittest

from recstore.schema import parse_schema
from recstore.writing import schema_text

STRUCTS = "struct s {\n  x: u8;\n}\nstruct t {\n  y: u16;\n}\n"


class Written(unittest.TestCase):
    def check(self, text, expected):
        with self.subTest(text=text):
            schema = parse_schema(text)
            self.assertEqual(schema_text(schema), expected)
            self.assertEqual(parse_schema(expected), schema)

    def field(self, text, expected=None):
        """A field of a record behind two structs."""
        written = STRUCTS + "record r 1 {\n  " + (text if expected is None else expected) + "\n}\n"
        self.check(STRUCTS + "record r 1 { " + text + " }", written)

    def test_no_declarations(self):
        self.check("", "")
        self.check(" # nothing\n", "")

    def test_structs_and_records(self):
        self.check("struct s{x:u8;}", "struct s {\n  x: u8;\n}\n")
        self.check("record r 1{x:u8;}", "record r 1 {\n  x: u8;\n}\n")
        self.check(
            "record q 1 { x: u8; y: i8; } struct s { z: u32; } record q 2 { x: u16; }",
            "record q 1 {\n  x: u8;\n  y: i8;\n}\nstruct s {\n  z: u32;\n}\nrecord q 2 {\n  x: u16;\n}\n",
        )

    def test_versions(self):
        texts = [f"record r {version} {{\n  x: u8;\n}}\n" for version in (1, 2, 3, 4)]
        self.check("".join(texts), "".join(texts))

    def test_words(self):
        for word in ("u8", "u16", "u32", "i8", "i16", "i32"):
            self.field("f: " + word + ";")
            self.field("f: " + word + " big;")

    def test_bits(self):
        self.field("f:bits u8{a 1,b 3};", "f: bits u8 { a 1, b 3 };")
        self.field("f: bits u16 { a 16 };")
        self.field("f: bits u32 big { a 1, b 2, c 29 };")
        self.field("f: bits u8 big { a 8 };")

    def test_structs(self):
        self.field("f:s;", "f: s;")

    def test_rows(self):
        self.field("f: 1 of u8;")
        self.field("f: 6  of  i16  big ;", "f: 6 of i16 big;")
        self.field("f: 3 of t;")

    def test_unions(self):
        self.field("f: one of s;")
        self.field("f: one of t,s;", "f: one of t, s;")
        self.field("f: one of s , t ;", "f: one of s, t;")

    def test_lists(self):
        self.field("f: list of u32;")
        self.field("f: list of i8 big;")
        self.field("f: list of s;")

    def test_references(self):
        self.field("f: ref r;")

    def test_initial_values(self):
        self.field("f: u8=0;", "f: u8 = 0;")
        self.field("f: u16 big = 65535;")
        self.field("f: i8 = - 5;", "f: i8 = -5;")
        self.field("f: i32 = -999999999;")
        self.field("f: i8 = -0;", "f: i8 = 0;")

    def test_previous_names(self):
        self.check(
            "record r 1 { a: u8; b: list of u8; } record r 2 { c was a: u8 = 3; d was b: list of u8; a: i16 = -1; }",
            "record r 1 {\n  a: u8;\n  b: list of u8;\n}\n"
            "record r 2 {\n  c was a: u8 = 3;\n  d was b: list of u8;\n  a: i16 = -1;\n}\n",
        )

    def test_remarks_and_spaces_go(self):
        self.check("# one\nrecord   r 1 # two\n{\n\n x :\nu8 ; } # three", "record r 1 {\n  x: u8;\n}\n")

    def test_a_written_form_is_its_own(self):
        text = (
            STRUCTS + "record r 1 {\n  a: u8 = 7;\n  b: bits u16 big { x 1, y 15 };\n  c: one of s, t;\n  d: 2 of t;\n"
            "  e: list of s;\n  f: ref r;\n  g: s;\n}\nrecord r 2 {\n  z was a: i16 = -7;\n}\n"
        )
        self.check(text, text)


if __name__ == "__main__":
    unittest.main()
