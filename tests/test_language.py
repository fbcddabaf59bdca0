"""k2, c2, c3, c4: the language of schemas, production by production, and each bound at its ends and beyond."""

import unittest

from recstore.errors import BadSchema
from recstore.schema import parse_schema

UNEXPECTED = "unexpected token"
RESERVED = (
    "struct", "record", "was", "bits", "one", "of", "list", "ref", "big", "u8", "u16", "u32", "i8", "i16", "i32",
)
U8 = ("word", 1, False, False)


def refusal(text):
    """The token and the reason with which a text is refused, or None."""
    try:
        parse_schema(text)
    except BadSchema as caught:
        return caught.token, caught.reason
    return None


def kind(text):
    """The type of the field f of a record, for which there are the structs s and t."""
    return parse_schema("struct s { x: u8; } struct t { y: u16; } record r 1 { f: " + text + "; }")[2][3][0][2]


def kind_refusal(text):
    """As refusal, with the tokens of the type counted from 1."""
    told = refusal("struct s { x: u8; } struct t { y: u16; } record r 1 { f: " + text + "; }")
    return None if told is None else (told[0] - 22, told[1])


class Schemas(unittest.TestCase):
    def test_no_declarations(self):
        self.assertEqual(parse_schema(""), ())

    def test_structs_and_records(self):
        self.assertEqual(
            parse_schema("struct s { x: u8; } record r 1 { a: u8; b: s; } record r 2 { a: u8; } record q 1 { c: u8; }"),
            (
                ("struct", "s", (("x", None, U8, None),)),
                ("record", "r", 1, (("a", None, U8, None), ("b", None, ("struct", "s"), None))),
                ("record", "r", 2, (("a", None, U8, None),)),
                ("record", "q", 1, (("c", None, U8, None),)),
            ),
        )

    def test_a_struct_alone(self):
        self.assertEqual(parse_schema("struct s { x: u8; }"), (("struct", "s", (("x", None, U8, None),)),))

    def test_versions_are_from_1_to_4(self):
        texts = ["record r " + str(version) + " { a: u8; }" for version in (1, 2, 3, 4)]
        self.assertEqual([item[2] for item in parse_schema(" ".join(texts))], [1, 2, 3, 4])
        for version in ("0", "5", "6", "10", "999999999"):
            with self.subTest(version=version):
                self.assertEqual(refusal("record r " + version + " { a: u8; }"), (3, UNEXPECTED))
                self.assertEqual(refusal(" ".join(texts) + " record r " + version + " { a: u8; }"), (39, UNEXPECTED))

    def test_a_struct_has_no_version_and_a_record_has_one(self):
        self.assertEqual(refusal("struct s 1 { x: u8; }"), (3, UNEXPECTED))
        self.assertEqual(refusal("record r { a: u8; }"), (3, UNEXPECTED))

    def test_a_declaration_has_a_field_at_least(self):
        self.assertEqual(refusal("struct s { }"), (4, UNEXPECTED))
        self.assertEqual(refusal("record r 1 { }"), (5, UNEXPECTED))

    def test_only_declarations_stand_outside(self):
        for text in ("field", "a: u8;", "{", "}", ";", "1", "list", "u8", "was"):
            with self.subTest(text=text):
                self.assertEqual(refusal(text), (1, UNEXPECTED))
                self.assertEqual(refusal("struct s { x: u8; } " + text), (9, UNEXPECTED))
                self.assertEqual(refusal("record r 1 { x: u8; } " + text + " struct"), (10, UNEXPECTED))

    def test_reserved_words_are_no_names(self):
        for word in RESERVED:
            with self.subTest(word=word):
                self.assertEqual(refusal("struct " + word + " { x: u8; }"), (2, UNEXPECTED))
                self.assertEqual(refusal("record " + word + " 1 { x: u8; }"), (2, UNEXPECTED))
                self.assertEqual(refusal("struct s { " + word + ": u8; }"), (4, UNEXPECTED))
                self.assertEqual(refusal("struct s { x was " + word + ": u8; }"), (6, UNEXPECTED))
                self.assertEqual(refusal("struct s { x: bits u8 { " + word + " 1 }; }"), (9, UNEXPECTED))
                self.assertEqual(refusal("struct s { x: one of " + word + "; }"), (8, UNEXPECTED))
                self.assertEqual(refusal("struct s { x: ref " + word + "; }"), (7, UNEXPECTED))


class Fields(unittest.TestCase):
    def fields(self, text):
        return parse_schema("record r 1 { old: u8; a: u8; } record r 2 { " + text + " }")[1][3]

    def test_a_field(self):
        self.assertEqual(self.fields("a: u8;"), (("a", None, U8, None),))

    def test_a_previous_name(self):
        self.assertEqual(self.fields("b was old: u8;"), (("b", "old", U8, None),))
        self.assertEqual(self.fields("b was old: u8 = 3;"), (("b", "old", U8, 3),))

    def test_initial_values(self):
        for number, initial in (("0", 0), ("255", 255), ("-0", 0), ("- 0", 0)):
            with self.subTest(number=number):
                self.assertEqual(self.fields("c: u8 = " + number + ";"), (("c", None, U8, initial),))
        self.assertEqual(self.fields("c: i32 = -999999999;")[0][3], -999999999)

    def test_fields_in_order(self):
        self.assertEqual(
            self.fields("z: u8; y: u8 = 1; x was a: u8;"),
            (("z", None, U8, None), ("y", None, U8, 1), ("x", "a", U8, None)),
        )

    def test_what_does_not_fit(self):
        for text, token in (
            ("a u8;", 2), ("a: ;", 3), ("a: u8", 4), ("a:: u8;", 3), ("a was: u8;", 3), ("a was b c: u8;", 4),
            ("was b: u8;", 1), ("a: u8 =;", 5), ("a: u8 = -;", 6), ("a: u8 = b;", 5), ("a: u8 = - b;", 6),
            ("a: u8 5;", 4), ("a: u8 = 5 6;", 6), ("a: u8 = 5", 6), ("a: u8,", 4), ("a = 5;", 2), ("; a: u8;", 1),
            ("a: u8 = 5 - 3;", 6), ("a: u8;;", 5), ("a, b: u8;", 2), ("a: u8 was b;", 4), ("a: u8 = was;", 5),
        ):
            with self.subTest(text=text):
                self.assertEqual(refusal("struct s { " + text + " }"), (token + 3, UNEXPECTED))
                self.assertEqual(refusal("record r 1 { " + text + " }"), (token + 4, UNEXPECTED))


class Kinds(unittest.TestCase):
    def test_words(self):
        for text, expected in (
            ("u8", (1, False)), ("u16", (2, False)), ("u32", (4, False)),
            ("i8", (1, True)), ("i16", (2, True)), ("i32", (4, True)),
        ):
            with self.subTest(text=text):
                self.assertEqual(kind(text), ("word",) + expected + (False,))
                self.assertEqual(kind(text + " big"), ("word",) + expected + (True,))
                self.assertEqual(kind_refusal(text + " big big"), (3, UNEXPECTED))
                self.assertEqual(kind_refusal(text + " " + text), (2, UNEXPECTED))

    def test_bits(self):
        self.assertEqual(kind("bits u8 { x 1 }"), ("bits", 1, False, (("x", 1),)))
        self.assertEqual(kind("bits u16 { a 3, b 13 }"), ("bits", 2, False, (("a", 3), ("b", 13))))
        self.assertEqual(kind("bits u32 big { a 1, b 2, c 3 }"), ("bits", 4, True, (("a", 1), ("b", 2), ("c", 3))))
        self.assertEqual(kind("bits u8 big { x 8 }"), ("bits", 1, True, (("x", 8),)))

    def test_bits_are_of_unsigned_words(self):
        for text in ("i8", "i16", "i32", "s", "2", "big", "bits", "{"):
            with self.subTest(text=text):
                self.assertEqual(kind_refusal("bits " + text + " { x 1 }"), (2, UNEXPECTED))

    def test_widths_are_from_1_to_32(self):
        self.assertEqual(kind("bits u32 { x 1 }"), ("bits", 4, False, (("x", 1),)))
        self.assertEqual(kind("bits u32 { x 32 }"), ("bits", 4, False, (("x", 32),)))
        for width in ("0", "33", "100", "999999999"):
            with self.subTest(width=width):
                self.assertEqual(kind_refusal("bits u32 { x " + width + " }"), (5, UNEXPECTED))
                self.assertEqual(kind_refusal("bits u32 { y 1, x " + width + " }"), (8, UNEXPECTED))

    def test_bits_that_do_not_fit(self):
        for text, token in (
            ("bits u8 { }", 4), ("bits u8 { x }", 5), ("bits u8 { x 1, }", 7), ("bits u8 { x 1 y 2 }", 6),
            ("bits u8 { 1 x }", 4), ("bits u8 { x: 1 }", 5), ("bits u8 x 1", 3), ("bits u8 { x 1; }", 6),
            ("bits { x 1 }", 2), ("bits u8 { x -1 }", 5), ("bits u8 big big { x 1 }", 4), ("bits u8 { , x 1 }", 4),
        ):
            with self.subTest(text=text):
                self.assertEqual(kind_refusal(text), (token, UNEXPECTED))

    def test_structs(self):
        self.assertEqual(kind("s"), ("struct", "s"))
        self.assertEqual(kind_refusal("s big"), (2, UNEXPECTED))
        self.assertEqual(kind_refusal("s t"), (2, UNEXPECTED))

    def test_rows(self):
        self.assertEqual(kind("1 of u8"), ("row", 1, U8))
        self.assertEqual(kind("3 of s"), ("row", 3, ("struct", "s")))
        self.assertEqual(kind("6 of i16 big"), ("row", 6, ("word", 2, True, True)))
        for text, token in (
            ("0 of u8", 1), ("7 of u8", 1), ("10 of u8", 1), ("2 u8", 2), ("2 of", 3), ("2 of 2 of u8", 3),
            ("2 of bits u8 { x 1 }", 3), ("2 of one of s", 3), ("2 of list of u8", 3), ("2 of ref r", 3),
            ("2 of of u8", 3), ("2", 2), ("of u8", 1),
        ):
            with self.subTest(text=text):
                self.assertEqual(kind_refusal(text), (token, UNEXPECTED))

    def test_unions(self):
        self.assertEqual(kind("one of s"), ("one", ("s",)))
        self.assertEqual(kind("one of t, s"), ("one", ("t", "s")))
        for text, token in (
            ("one s", 2), ("one of", 3), ("one of s,", 5), ("one of s t", 4), ("one of u8", 3), ("one of , s", 3),
            ("one of 2", 3), ("one of s, u8", 5), ("one of s, 1 of s", 5), ("one of one of s", 3), ("one of { s }", 3),
        ):
            with self.subTest(text=text):
                self.assertEqual(kind_refusal(text), (token, UNEXPECTED))

    def test_lists(self):
        self.assertEqual(kind("list of u8"), ("list", U8))
        self.assertEqual(kind("list of i32 big"), ("list", ("word", 4, True, True)))
        self.assertEqual(kind("list of t"), ("list", ("struct", "t")))
        for text, token in (
            ("list u8", 2), ("list of", 3), ("list of list of u8", 3), ("list of 2 of u8", 3), ("list of ref r", 3),
            ("list of bits u8 { x 1 }", 3), ("list of one of s", 3), ("list of 3", 3),
        ):
            with self.subTest(text=text):
                self.assertEqual(kind_refusal(text), (token, UNEXPECTED))

    def test_references(self):
        self.assertEqual(kind("ref r"), ("ref", "r"))
        for text, token in (("ref", 2), ("ref 1", 2), ("ref of r", 2), ("ref r r", 3), ("ref r big", 3), ("ref u8", 2)):
            with self.subTest(text=text):
                self.assertEqual(kind_refusal(text), (token, UNEXPECTED))


class Bounds(unittest.TestCase):
    def test_the_examples_of_the_interface(self):
        self.assertEqual(
            parse_schema("record r 1 { a: u16 big = 7; b: bits u8 { x 1, y 3 }; }"),
            (("record", "r", 1, (
                ("a", None, ("word", 2, False, True), 7), ("b", None, ("bits", 1, False, (("x", 1), ("y", 3))), None),
            )),),
        )
        self.assertEqual(refusal("record r 1 { a u8; }"), (6, UNEXPECTED))

    def test_names_have_at_most_eight_characters(self):
        for text, token in (
            ("struct {} {{ x: u8; }}", 2), ("record {} 1 {{ x: u8; }}", 2), ("struct s {{ {}: u8; }}", 4),
            ("struct s {{ x: bits u8 {{ {} 1 }}; }}", 9),
        ):
            with self.subTest(text=text):
                self.assertIsNone(refusal(text.format("abcdefgh")))
                self.assertIsNone(refusal(text.format("a")))
                self.assertEqual(refusal(text.format("abcdefghi")), (token, UNEXPECTED))

    def test_what_is_returned_is_made_of_tuples(self):
        def kinds(item):
            yield item.__class__
            if isinstance(item, (tuple, list)):
                for part in item:
                    yield from kinds(part)

        text = "struct s { x: u8; } record r 1 { a: u8 big = 1; b: bits u8 { x 1 }; c: one of s; d: 2 of s; e: list of s; }"
        self.assertEqual(set(kinds(parse_schema(text))), {tuple, str, int, bool, type(None)})


if __name__ == "__main__":
    unittest.main()
