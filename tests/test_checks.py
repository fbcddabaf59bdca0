"""k4: what is wrong with declarations one by one, each refusal by its own text, and their order."""

import unittest

from recstore.errors import BadSchema
from recstore.schema import parse_schema

S = "struct s { x: u8; } "
T = "struct t { y: u16; } "


class Case(unittest.TestCase):
    def right(self, *texts):
        for text in texts:
            with self.subTest(text=text):
                parse_schema(text)

    def wrong(self, text, reason):
        with self.subTest(text=text):
            with self.assertRaises(BadSchema) as caught:
                parse_schema(text)
            self.assertEqual((caught.exception.token, caught.exception.reason), (0, reason))


class Declarations(Case):
    EIGHT = "".join(["struct s" + str(index) + " { x: u8; } " for index in range(8)])

    def test_eight_declarations(self):
        self.right(self.EIGHT, "".join(["record r" + str(index) + " 1 { x: u8; } " for index in range(8)]))

    def test_nine_declarations(self):
        self.wrong(self.EIGHT + "struct z { x: u8; }", "struct z: too many declarations")
        self.wrong(self.EIGHT + "record z 1 { x: u8; }", "record z 1: too many declarations")
        self.wrong(self.EIGHT + "struct z { x: u8; } struct y { x: u8; }", "struct z: too many declarations")

    def test_too_many_are_told_ahead_of_the_name_and_the_version(self):
        self.wrong(self.EIGHT + "struct s0 { x: u8; }", "struct s0: too many declarations")
        self.wrong(self.EIGHT + "record z 3 { x: u8; }", "record z 3: too many declarations")
        self.wrong(self.EIGHT + "record z 1 { x: u8; x: none; }", "record z 1: too many declarations")

    def test_what_is_wrong_ahead_of_the_ninth_is_told(self):
        text = self.EIGHT.replace("s7 { x: u8; }", "s7 { x: u8; x: u8; }")
        self.wrong(text + "struct z { x: u8; }", "struct s7: x: duplicate name")

    def test_structs_of_one_name(self):
        self.wrong(S + "struct s { y: u8; }", "struct s: duplicate name")
        self.wrong(S + T + "struct s { y: none; }", "struct s: duplicate name")

    def test_a_struct_and_a_record_can_have_one_name(self):
        self.right("struct s { x: u8; } record s 1 { s: s; }", "record s 1 { x: u8; } struct s { x: u8; }")

    def test_versions(self):
        self.right(
            "record r 1 { x: u8; } record r 2 { x: u8; } record r 3 { x: u8; } record r 4 { x: u8; }",
            "record r 1 { x: u8; } record q 1 { x: u8; } " + S + "record r 2 { x: u8; } record q 2 { x: u8; }",
        )
        for version in (2, 3, 4):
            self.wrong(f"record r {version} {{ x: u8; }}", f"record r {version}: version 1 expected")
        for version in (1, 3, 4):
            self.wrong(f"record r 1 {{ x: u8; }} record r {version} {{ x: u8; }}", f"record r {version}: version 2 expected")
        self.wrong("record q 1 { x: u8; } record r 2 { x: u8; }", "record r 2: version 1 expected")
        self.wrong("struct r { x: u8; } record r 2 { x: u8; }", "record r 2: version 1 expected")

    def test_a_fifth_version(self):
        four = "".join([f"record r {version} {{ x: u8; }} " for version in (1, 2, 3, 4)])
        for version in (1, 4):
            self.wrong(four + f"record r {version} {{ x: u8; }}", f"record r {version}: version 5 expected")

    def test_the_first_declaration_that_is_wrong_is_told(self):
        self.wrong("struct s { x: none; } struct s { x: u8; }", "struct s: x: unknown struct none")
        self.wrong("struct s { x: u8; } struct s { x: none; } record r 2 { a: u8; }", "struct s: duplicate name")
        self.wrong("record r 1 { a: none; } record r 3 { a: u8; }", "record r 1: a: unknown struct none")

    def test_the_version_is_told_ahead_of_the_fields(self):
        self.wrong("record r 2 { a: none; a: none; }", "record r 2: version 1 expected")


class Names(Case):
    def test_fields_of_one_name(self):
        self.wrong("struct s { x: u8; x: u8; }", "struct s: x: duplicate name")
        self.wrong("record r 1 { x: u8; y: u8; x: u16; }", "record r 1: x: duplicate name")
        self.right("struct s { x: u8; y: u8; } record r 1 { x: u8; y: s; }")

    def test_previous_names(self):
        self.right(
            "record r 1 { x: u8; } record r 2 { y was x: u8; }",
            "record r 1 { x: u8; } record r 2 { x was x: u8; }",
            "record r 1 { x: u8; y: u8; } record r 2 { y was x: u8; x was y: u8; }",
            "record r 1 { x: u8; } record r 2 { y was x: u8; z was x: u8; }",
            "record r 1 { x: u8; l: list of u8; } record r 2 { k was l: list of u8; }",
            "record r 1 { x: u8; } record q 1 { x: u8; } record r 2 { y was x: u8; }",
        )

    def test_unknown_previous_names(self):
        unknown = "unknown previous name"
        self.wrong("record r 1 { x: u8; } record r 2 { y was z: u8; }", "record r 2: y: " + unknown)
        self.wrong("record r 1 { x: u8; } record r 2 { y: u8; z was y: u8; }", "record r 2: z: " + unknown)
        self.wrong("record r 1 { y was x: u8; }", "record r 1: y: " + unknown)
        self.wrong("record r 1 { x: u8; y was x: u8; }", "record r 1: y: " + unknown)
        self.wrong("struct s { x: u8; y was x: u8; }", "struct s: y: " + unknown)
        self.wrong("record r 1 { x: u8; } struct s { y was x: u8; }", "struct s: y: " + unknown)
        self.wrong("record q 1 { x: u8; } record r 1 { y was x: u8; }", "record r 1: y: " + unknown)

    def test_only_the_version_ahead_is_asked(self):
        self.wrong(
            "record r 1 { x: u8; } record r 2 { y: u8; } record r 3 { z was x: u8; }",
            "record r 3: z: unknown previous name",
        )
        self.wrong(
            "record q 1 { x: u8; } record r 1 { y: u8; } record q 2 { z: u8; } record r 2 { z was x: u8; }",
            "record r 2: z: unknown previous name",
        )
        self.wrong(
            "record r 1 { y: u8; } record q 1 { x: u8; } record r 2 { z was x: u8; }",
            "record r 2: z: unknown previous name",
        )


class Parts(Case):
    def test_bit_fields_of_one_name(self):
        self.wrong("record r 1 { a: bits u8 { x 1, y 1, x 1 }; }", "record r 1: a: duplicate bit field")
        self.right("record r 1 { a: bits u8 { a 1, b 1 }; b: bits u8 { a 1, b 1 }; }")

    def test_widths(self):
        self.right(
            "record r 1 { a: bits u8 { x 8 }; b: bits u8 { x 3, y 5 }; c: bits u16 { x 16 }; d: bits u32 big { x 32 }; }",
            "record r 1 { a: bits u16 { x 15, y 1 }; b: bits u32 { x 31, y 1 }; c: bits u8 { x 1 }; }",
        )
        for text in (
            "u8 { x 9 }", "u8 { x 8, y 1 }", "u16 { x 17 }", "u16 big { x 1, y 15, z 1 }", "u32 { x 32, y 1 }",
            "u8 { a 2, b 2, c 2, d 3 }",
        ):
            self.wrong("record r 1 { a: bits " + text + "; }", "record r 1: a: bit fields exceed the word")
            self.wrong("struct s { a: bits " + text + "; }", "struct s: a: bit fields exceed the word")

    def test_alternatives(self):
        self.right(S + T + "record r 1 { a: one of s, t; b: one of t; }")
        self.wrong(S + "record r 1 { a: one of s, s; }", "record r 1: a: duplicate alternative")
        self.wrong(S + T + "struct v { a: one of s, t, s; }", "struct v: a: duplicate alternative")

    def test_lists_in_structs(self):
        self.wrong("struct s { a: list of u8; }", "struct s: a: list inside a struct")
        self.wrong(S + "struct t { a: u8; b: list of s; }", "struct t: b: list inside a struct")

    def test_unknown_structs(self):
        for text in ("s", "2 of s", "one of s", "list of s"):
            self.right(S + "record r 1 { a: " + text + "; }")
            self.wrong("record r 1 { a: " + text + "; }", "record r 1: a: unknown struct s")
            self.wrong("record r 1 { a: " + text + "; } " + S, "record r 1: a: unknown struct s")
        for text in ("s", "2 of s", "one of s"):
            self.wrong("struct t { a: " + text + "; }", "struct t: a: unknown struct s")

    def test_the_first_unknown_alternative_is_told(self):
        self.wrong(S + "record r 1 { a: one of s, v, w; }", "record r 1: a: unknown struct v")
        self.wrong(S + "record r 1 { a: one of w, s, v; }", "record r 1: a: unknown struct w")

    def test_a_struct_is_not_ahead_of_itself(self):
        self.wrong("struct s { a: s; }", "struct s: a: unknown struct s")
        self.wrong("struct s { a: u8; b: 2 of s; }", "struct s: b: unknown struct s")

    def test_a_record_is_no_struct(self):
        self.wrong("record q 1 { x: u8; } record r 1 { a: q; }", "record r 1: a: unknown struct q")

    def test_references(self):
        self.right(
            "record r 1 { a: ref r; }", "record r 1 { a: ref q; } record q 1 { x: u8; }", "struct s { a: ref r; } "
            "record r 1 { x: s; }", "struct s { a: ref r; } record r 1 { x: u8; }",
        )
        self.wrong("record r 1 { a: ref q; }", "record r 1: a: unknown record type q")
        self.wrong("struct q { x: u8; } record r 1 { a: ref q; }", "record r 1: a: unknown record type q")
        self.wrong("struct s { x: u8; a: ref r; }", "struct s: a: unknown record type r")

    def test_initial_values(self):
        for word, least, greatest in (
            ("u8", 0, 255), ("u16", 0, 65535), ("u32", 0, 999999999), ("i8", -128, 127), ("i16", -32768, 32767),
            ("i32", -999999999, 999999999), ("u16 big", 0, 65535), ("i16 big", -32768, 32767),
        ):
            for initial in (least, greatest, 0):
                self.right(f"record r 1 {{ a: {word} = {initial}; }}")
            for initial in (least - 1, greatest + 1):
                if abs(initial) < 10 ** 9:
                    self.wrong(f"record r 1 {{ a: {word} = {initial}; }}", "record r 1: a: invalid initial value")

    def test_initial_values_of_anything_else(self):
        for text in ("bits u8 { x 1 }", "s", "2 of u8", "2 of s", "one of s", "list of u8", "list of s", "ref r"):
            for initial in (0, 1):
                self.wrong(S + f"record r 1 {{ a: {text} = {initial}; }}", "record r 1: a: invalid initial value")

    def test_initial_values_in_structs(self):
        for initial in (0, 1, 256):
            self.wrong(f"struct s {{ a: u8 = {initial}; }}", "struct s: a: invalid initial value")


class Orders(Case):
    """Where two refusals hold, the one that stands ahead."""

    def test_the_first_field_ahead_of_the_others(self):
        self.wrong("record r 1 { a: none; b: u8; b: u8; }", "record r 1: a: unknown struct none")
        self.wrong("record r 1 { a: u8 = 256; b was c: u8; }", "record r 1: a: invalid initial value")
        self.wrong("record r 1 { b: u8; b: u8; a: none; }", "record r 1: b: duplicate name")

    def test_a_name_ahead_of_all_else(self):
        self.wrong("record r 1 { a: u8; a was b: u8; }", "record r 1: a: duplicate name")
        self.wrong("record r 1 { a: u8; a: bits u8 { x 1, x 1 }; }", "record r 1: a: duplicate name")
        self.wrong("record r 1 { a: u8; a: u8 = 256; }", "record r 1: a: duplicate name")

    def test_a_previous_name_ahead_of_the_rest(self):
        unknown = "record r 1: a: unknown previous name"
        for text in ("bits u8 { x 1, x 1 }", "bits u8 { x 9 }", "one of s, s", "none", "ref none", "u8 = 256"):
            self.wrong("record r 1 { a was b: " + text + "; }", unknown)
        self.wrong("struct s { a was b: list of u8; }", "struct s: a: unknown previous name")

    def test_bit_fields_of_one_name_ahead_of_their_widths(self):
        self.wrong("record r 1 { a: bits u8 { x 8, x 8 }; }", "record r 1: a: duplicate bit field")

    def test_bits_ahead_of_initial_values(self):
        self.wrong("record r 1 { a: bits u8 { x 1, x 1 } = 1; }", "record r 1: a: duplicate bit field")
        self.wrong("record r 1 { a: bits u8 { x 9 } = 1; }", "record r 1: a: bit fields exceed the word")

    def test_alternatives_twice_ahead_of_unknown_ones(self):
        self.wrong("record r 1 { a: one of v, v; }", "record r 1: a: duplicate alternative")
        self.wrong("record r 1 { a: one of v, w, w; }", "record r 1: a: duplicate alternative")
        self.wrong(S + "record r 1 { a: one of s, s = 1; }", "record r 1: a: duplicate alternative")

    def test_a_list_in_a_struct_ahead_of_its_item(self):
        self.wrong("struct s { a: list of none; }", "struct s: a: list inside a struct")
        self.wrong("struct s { a: list of u8 = 1; }", "struct s: a: list inside a struct")

    def test_unknown_names_ahead_of_initial_values(self):
        self.wrong("record r 1 { a: none = 1; }", "record r 1: a: unknown struct none")
        self.wrong("record r 1 { a: ref none = 1; }", "record r 1: a: unknown record type none")

    def test_fields_ahead_of_sizes(self):
        self.wrong("record r 1 { a: list of u8; b: list of u8; c: list of u8; d: none; }", "record r 1: d: unknown struct none")

    def test_sizes_ahead_of_what_does_not_agree(self):
        self.wrong(
            "record r 1 { a: u16; } record r 2 { a: u8; b: list of u8; c: list of u8; d: list of u8; }",
            "record r 2: declaration is too large",
        )


class Sizes(Case):
    LARGE = "declaration is too large"

    def fields(self, many, kind="u8"):
        return " ".join([f"f{index}: {kind};" for index in range(many)])

    def test_scalar_fields(self):
        self.right("record r 1 { " + self.fields(24) + " }", "struct s { " + self.fields(24) + " }")
        self.wrong("record r 1 { " + self.fields(25) + " }", "record r 1: " + self.LARGE)
        self.wrong("struct s { " + self.fields(25) + " }", "struct s: " + self.LARGE)

    def test_scalar_fields_of_all_types_count(self):
        pair = "struct p { x: u8; y: u8; } "
        self.right(pair + "record r 1 { a: 6 of p; b: 6 of p; }", pair + "record r 1 { a: one of p; " + self.fields(21) + " }")
        self.wrong(pair + "record r 1 { a: 6 of p; b: 6 of p; c: u8; }", "record r 1: " + self.LARGE)
        self.wrong(pair + "record r 1 { a: one of p; " + self.fields(22) + " }", "record r 1: " + self.LARGE)
        self.right("record r 1 { a: bits u8 { x 1, y 1, z 1 }; " + self.fields(21) + " }")
        self.wrong("record r 1 { a: bits u8 { x 1, y 1, z 1 }; " + self.fields(22) + " }", "record r 1: " + self.LARGE)
        self.right("record r 1 { a: ref r; " + self.fields(23) + " }")
        self.wrong("record r 1 { a: ref r; " + self.fields(24) + " }", "record r 1: " + self.LARGE)

    def test_scalar_fields_of_one_element_of_each_list_count(self):
        pair = "struct p { x: u8; y: u8; } "
        self.right("record r 1 { a: list of u8; " + self.fields(23) + " }", pair + "record r 1 { a: list of p; " + self.fields(22) + " }")
        self.right(pair + "record r 1 { a: list of p; b: list of u8; " + self.fields(21) + " }")
        self.wrong("record r 1 { a: list of u8; " + self.fields(24) + " }", "record r 1: " + self.LARGE)
        self.wrong(pair + "record r 1 { a: list of p; " + self.fields(23) + " }", "record r 1: " + self.LARGE)
        self.wrong(pair + "record r 1 { a: list of p; b: list of p; " + self.fields(21) + " }", "record r 1: " + self.LARGE)

    def test_bytes(self):
        self.right("record r 1 { " + self.fields(16, "u32") + " }", "struct s { " + self.fields(16, "i32") + " }")
        self.wrong("record r 1 { " + self.fields(16, "u32") + " g: u8; }", "record r 1: " + self.LARGE)
        self.wrong("struct s { " + self.fields(17, "u32") + " }", "struct s: " + self.LARGE)

    def test_padding_counts(self):
        self.right("record r 1 { " + self.fields(15, "u32") + " g: u8; h: u16; }")
        self.wrong("record r 1 { g: u8; " + self.fields(15, "u32") + " h: u8; }", "record r 1: " + self.LARGE)

    def test_list_headers_count(self):
        self.right("record r 1 { " + self.fields(15, "u32") + " l: list of u8; }")
        self.wrong("record r 1 { " + self.fields(16, "u32") + " l: list of u8; }", "record r 1: " + self.LARGE)

    def test_bytes_of_elements_do_not_count(self):
        large = "struct s { " + self.fields(9, "u32") + " } "
        self.right(large + "record r 1 { a: list of s; b: list of s; c: u32; }")

    def test_lists(self):
        self.right("record r 1 { a: list of u8; }", "record r 1 { a: list of u8; b: list of u8; }")
        self.wrong("record r 1 { a: list of u8; b: list of u8; c: list of u8; }", "record r 1: " + self.LARGE)


class Agreement(Case):
    def versions(self, one, two, ahead=""):
        return ahead + "record r 1 { " + one + " } record r 2 { " + two + " }"

    def agree(self, one, two, ahead=""):
        self.right(self.versions(one, two, ahead))

    def disagree(self, path, one, two, ahead=""):
        reason = "record r 2: " + path + " is incompatible with the previous version"
        self.wrong(self.versions(one, two, ahead), reason)

    def test_words_that_hold_all_integers(self):
        # For each word, those that hold all of its integers.
        wider = {
            "u8": ("u8", "u16", "u32", "i16", "i32"), "u16": ("u16", "u32", "i32"), "u32": ("u32",),
            "i8": ("i8", "i16", "i32"), "i16": ("i16", "i32"), "i32": ("i32",),
        }
        for one, others in wider.items():
            for two in wider:
                for order in ("", " big"):
                    if two in others:
                        self.agree(f"a: {one};", f"a: {two}{order};")
                        self.agree(f"a: {one}{order};", f"a: {two};")
                    else:
                        self.disagree("a", f"a: {one};", f"a: {two}{order};")

    def test_bit_fields(self):
        self.agree("a: bits u8 { x 2, y 3 };", "a: bits u16 big { y 3, x 4 };")
        self.disagree("a.x", "a: bits u8 { x 2, y 3 };", "a: bits u8 { x 1, y 3 };")
        self.disagree("a.y", "a: bits u8 { x 2, y 3 };", "a: bits u8 { x 2, y 2 };")
        self.agree("a: bits u8 { x 2, y 3 };", "a: bits u8 { x 2 };")
        self.agree("a: bits u8 { x 8 };", "a: s;", S)
        self.disagree("a.x", "a: s;", "a: bits u8 { x 7 };", S)
        self.agree("a: s;", "a: bits u8 { x 8 };", S)

    def test_fields_without_source_agree_with_all(self):
        self.agree("a: u32;", "b: u8;")
        self.agree("a: u32;", "a: s;", S)
        self.agree("a: 2 of u32;", "a: u8;")
        self.agree("a: list of u32;", "a: u8;")
        self.agree("a: u32;", "a: list of u8;")
        self.agree("a: bits u8 { x 1 };", "a: one of s;", S)

    def test_fields_that_are_renamed(self):
        self.disagree("b", "a: u16;", "b was a: u8;")
        self.agree("a: u16; b: u8;", "b was a: u16; a was b: u8;")
        self.disagree("a", "a: u8; b: u16;", "b was a: u16; a was b: u8;")
        self.disagree("b.x", "a: s;", "b was a: v;", S.replace("u8", "u16") + "struct v { x: u8; } ")

    def test_roles(self):
        self.disagree("a", "a: u8;", "a: one of s;", S)
        self.disagree("a", "a: one of s;", "a: u8;", S)
        self.disagree("a", "a: u32;", "a: ref r;")
        self.disagree("a", "a: ref r;", "a: u32;")
        self.disagree("a", "a: ref r;", "a: one of s;", S)
        self.disagree("a", "a: one of s;", "a: ref r;", S)

    def test_references(self):
        other = "record q 1 { x: u8; } "
        self.agree("a: ref q;", "a: ref q;", other)
        self.agree("a: ref r;", "b was a: ref r;")
        self.disagree("a", "a: ref q;", "a: ref r;", other)
        self.disagree("a", "a: ref r;", "a: ref q;", other)

    def test_alternatives(self):
        ahead = S + T + "struct v { z: u8; } "
        self.agree("a: one of s;", "a: one of s;", ahead)
        self.agree("a: one of s;", "a: one of s, t;", ahead)
        self.agree("a: one of s, t;", "b was a: one of s, t, v;", ahead)
        self.disagree("a", "a: one of s, t;", "a: one of s;", ahead)
        self.disagree("a", "a: one of s, t;", "a: one of t, s;", ahead)
        self.disagree("a", "a: one of s;", "a: one of t, s;", ahead)
        self.disagree("a", "a: one of s, t;", "a: one of s, v, t;", ahead)
        self.disagree("a", "a: one of s;", "a: one of t;", ahead)

    def test_alternatives_of_tags_within(self):
        ahead = S + T + "struct v { u: one of s; } struct w { u: one of s, t; } struct x { u: one of t; } "
        self.agree("a: v;", "a: w;", ahead)
        self.disagree("a.u", "a: w;", "a: v;", ahead)
        self.disagree("a.u", "a: v;", "a: x;", ahead)
        self.agree("a: 2 of v;", "b was a: 2 of w;", ahead)
        self.disagree("b.0.u", "a: 2 of w;", "b was a: 2 of v;", ahead)

    def test_conditions_of_fields_that_were_without(self):
        ahead = S + "struct v { s: s; } "
        self.disagree("a.s.x", "a: v;", "a: one of s;", ahead)
        self.disagree("a.s.x", "a: one of s;", "a: v;", ahead)

    def test_conditions_with_tags_that_are_traced_back(self):
        ahead = S + T + "struct v { u: one of s, t; } "
        self.agree("a: one of s, t;", "b was a: one of s, t;", ahead)
        self.agree("a: one of s, v;", "b was a: one of s, v;", ahead)
        self.agree("a: v; b: v;", "a was b: v; b was a: v;", ahead)

    def test_conditions_with_other_numbers(self):
        ahead = S + T + "struct v { u: one of s; } struct w { u: one of t, s; } "
        self.disagree("a.u", "a: v;", "a: w;", ahead)

    def test_fields_in_order(self):
        self.disagree("b", "a: u16; b: u16;", "b: u8; a: u8;")
        self.disagree("a", "a: u16; b: u16;", "a: u8; b: u8;")
        self.disagree("c.0", "c: 2 of u16; d: u16;", "c: 3 of u8; d: u8;")

    def test_elements_of_words(self):
        self.agree("l: list of u8;", "l: list of u16;")
        self.disagree("l", "l: list of u16;", "l: list of u8;")
        self.agree("l: list of u8;", "k was l: list of i16 big;")
        self.disagree("k", "l: list of u8;", "k was l: list of i8;")

    def test_elements_of_structs(self):
        ahead = S + "struct v { x: u16; w: u8; } struct w { u: one of s; } struct x { w: u16; x: u8; u: u8; } "
        self.agree("l: list of s;", "l: list of v;", ahead)
        self.disagree("l.x", "l: list of v;", "l: list of s;", ahead)
        self.disagree("k.x", "l: list of v;", "k was l: list of s;", ahead)
        self.disagree("l.u", "l: list of w;", "l: list of x;", ahead)
        self.disagree("l.x", "l: list of v;", "l: list of x;", ahead)
        self.agree("l: list of s;", "l: list of u8;", ahead)
        self.agree("l: list of u16;", "l: list of s;", ahead)

    def test_tags_and_conditions_of_elements(self):
        ahead = S + T + "struct v { s: s; u: one of s; } struct w { s: one of s; } struct x { u: one of s, t; } "
        self.agree("l: list of v;", "k was l: list of x;", ahead)
        self.disagree("l.u", "l: list of x;", "l: list of v;", ahead)
        tagged = S + "struct v { a: one of s; } struct k { s: s; } struct w { a: k; } "
        self.disagree("l.a.s.x", "l: list of v;", "l: list of w;", tagged)
        self.disagree("k.a.s.x", "l: list of w;", "k was l: list of v;", tagged)

    def test_references_of_elements(self):
        ahead = "record q 1 { x: u8; } struct s { a: ref q; } struct t { a: ref r; } "
        self.agree("l: list of s;", "k was l: list of s;", ahead)
        self.disagree("l.a", "l: list of s;", "l: list of t;", ahead)

    def test_lists_without_source_agree_with_all(self):
        self.agree("l: list of u16; k: list of u8;", "m: list of u8;")
        self.agree("l: list of u16;", "k: list of u8; l was l: list of u16;")
        self.agree("l: u16;", "l: list of u8;")
        self.agree("l: list of u16; k: list of u8;", "l was k: list of u8;")

    def test_fields_of_the_record_are_looked_at_ahead_of_lists(self):
        self.disagree("a", "l: list of u16; a: u16;", "l: list of u8; a: u8;")

    def test_lists_are_looked_at_in_order(self):
        self.disagree("k", "l: list of u16; k: list of u16;", "k: list of u8; l: list of u8;")
        self.disagree("l", "l: list of u16; k: list of u16;", "k: list of u16; l: list of u8;")

    def test_only_the_version_ahead_counts(self):
        self.right("record r 1 { a: u32; } record r 2 { b: u8; } record r 3 { a: u8; }")
        self.wrong(
            "record r 1 { a: u8; } record r 2 { a: u32; } record r 3 { a: u8; }",
            "record r 3: a is incompatible with the previous version",
        )

    def test_versions_of_other_types_do_not_count(self):
        self.right("record r 1 { a: u32; } record q 1 { a: u8; } record q 2 { a: u16; } record r 2 { a: u32; }")


if __name__ == "__main__":
    unittest.main()
