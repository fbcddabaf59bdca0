"""k1: how the text of a schema is split into tokens, told by the token that is refused and by what is read."""

import unittest

from recstore.errors import BadSchema
from recstore.schema import parse_schema


def refusal(text):
    """The token and the reason with which a text is refused, or None."""
    try:
        parse_schema(text)
    except BadSchema as caught:
        return caught.token, caught.reason
    return None


def field_names(text):
    return [field[0] for field in parse_schema(text)[0][-1]]


class Words(unittest.TestCase):
    def test_words_of_up_to_eight_characters_are_names(self):
        for name in ("a", "z", "a1", "abcdefg", "abcdefgh", "a1234567", "z9z9z9z9", "u64", "bit", "strict"):
            with self.subTest(name=name):
                self.assertEqual(field_names("record r 1 { " + name + ": u8; }"), [name])

    def test_runs_of_nine_characters_fit_nowhere(self):
        for name in ("abcdefghi", "a12345678", "abcdefghijklmnop", "structxyz"):
            with self.subTest(name=name):
                self.assertEqual(refusal("record r 1 { " + name + ": u8; }"), (5, "unexpected token"))
                self.assertEqual(refusal("struct " + name + " { a: u8; }"), (2, "unexpected token"))

    def test_a_long_run_is_one_token(self):
        self.assertEqual(refusal("record r 1 { a: u8; } recordabc r 2"), (10, "unexpected token"))
        self.assertEqual(refusal("abcdefgh"), (1, "unexpected token"))

    def test_a_letter_behind_digits(self):
        for run in ("1a", "12ab", "0x", "1e5", "123456789a"):
            with self.subTest(run=run):
                self.assertEqual(refusal("record r 1 { " + run + ": u8; }"), (5, "unexpected token"))
                self.assertEqual(refusal("record r 1 { a: u8 = " + run + "; }"), (9, "unexpected token"))
        self.assertEqual(refusal("record r 1a { a: u8; }"), (3, "unexpected token"))
        self.assertEqual(refusal("record r 1 { a: 2of u8; }"), (7, "unexpected token"))

    def test_a_run_goes_on_as_long_as_it_goes(self):
        self.assertEqual(refusal("recordr 1 { a: u8; }"), (1, "unexpected token"))
        self.assertEqual(refusal("record r1 { a: u8; }"), (3, "unexpected token"))
        self.assertEqual(refusal("record r 1 { a: u8 bigg; }"), (8, "unexpected token"))
        self.assertEqual(refusal("record r 1 { a: u8big; }"), (0, "record r 1: a: unknown struct u8big"))


class Numbers(unittest.TestCase):
    def initial(self, number):
        return parse_schema("record r 1 { a: u32 = " + number + "; }")[0][3][0][3]

    def test_numbers_of_up_to_nine_digits(self):
        for number in ("0", "1", "10", "99", "100000000", "999999999", "123456789"):
            with self.subTest(number=number):
                self.assertEqual(self.initial(number), int(number))

    def test_numbers_of_ten_digits_fit_nowhere(self):
        for number in ("1000000000", "4294967295", "12345678901"):
            with self.subTest(number=number):
                self.assertEqual(refusal("record r 1 { a: u32 = " + number + "; }"), (9, "unexpected token"))

    def test_zeros_at_the_beginning_fit_nowhere(self):
        for number in ("00", "01", "007", "000000001"):
            with self.subTest(number=number):
                self.assertEqual(refusal("record r 1 { a: u32 = " + number + "; }"), (9, "unexpected token"))
        self.assertEqual(refusal("record r 01 { a: u8; }"), (3, "unexpected token"))
        self.assertEqual(refusal("record r 1 { a: 02 of u8; }"), (7, "unexpected token"))
        self.assertEqual(refusal("record r 1 { a: bits u8 { x 01 }; }"), (11, "unexpected token"))

    def test_a_number_is_no_name_and_a_name_no_number(self):
        self.assertEqual(refusal("record 1 1 { a: u8; }"), (2, "unexpected token"))
        self.assertEqual(refusal("record r r { a: u8; }"), (3, "unexpected token"))

    def test_a_sign_is_a_token_of_its_own(self):
        self.assertEqual(parse_schema("record r 1 { a: i8 = - 5; b: i8=-6; }")[0][3][0][3], -5)
        self.assertEqual(parse_schema("record r 1 { a: i8 = - 5; b: i8=-6; }")[0][3][1][3], -6)
        self.assertEqual(refusal("record r 1 { a: i8 = --5; }"), (10, "unexpected token"))


class Signs(unittest.TestCase):
    WHOLE = (("record", "r", 1, (
        ("a", None, ("bits", 1, False, (("x", 1), ("y", 2))), None), ("b", None, ("word", 1, True, False), -1),
    )),)

    def test_signs_need_nothing_between_them(self):
        self.assertEqual(parse_schema("record r 1{a:bits u8{x 1,y 2};b:i8=-1;}"), self.WHOLE)

    def test_each_sign_counts_as_one_token(self):
        text = "record r 1{a:bits u8{x 1,y 2};b:i8=-1;}"
        # There are 24 tokens, the signs among them.
        self.assertEqual(refusal(text + "}"), (25, "unexpected token"))
        self.assertEqual(refusal(text[:-1]), (24, "unexpected end"))

    def test_any_other_character_is_a_token_that_fits_nowhere(self):
        for sign in "!\"$&'()*+./<>?@[\\]^_`|~ABCDEFGHIJKLMNOPQRSTUVWXYZ":
            with self.subTest(sign=sign):
                self.assertEqual(refusal("record r 1 { a: u8; } " + sign), (10, "unexpected token"))
                self.assertEqual(refusal("record r 1 { a" + sign + ": u8; }"), (6, "unexpected token"))
                self.assertEqual(refusal(sign + sign), (1, "unexpected token"))

    def test_a_capital_letter_ends_a_run(self):
        self.assertEqual(refusal("record rX 1 { a: u8; }"), (3, "unexpected token"))
        self.assertEqual(refusal("record Xr 1 { a: u8; }"), (2, "unexpected token"))


class Between(unittest.TestCase):
    PLAIN = parse_schema("record r 1 { a: u8; }")

    def test_spaces_and_newlines(self):
        for text in (
            "  record   r  1  {  a  :  u8  ;  }  ", "record\nr\n1\n{\na\n:\nu8\n;\n}\n", "\n\n record\n  r 1{\n a:u8;\n}",
        ):
            with self.subTest(text=text):
                self.assertEqual(parse_schema(text), self.PLAIN)

    def test_a_newline_ends_a_run(self):
        self.assertEqual(refusal("rec\nord r 1 { a: u8; }"), (1, "unexpected token"))
        self.assertEqual(refusal("record r\n1 { a: u\n8; }"), (8, "unexpected token"))

    def test_a_space_ends_a_run(self):
        self.assertEqual(refusal("record r 1 { a: u 8; }"), (8, "unexpected token"))

    def test_remarks(self):
        for text in (
            "# a ship\nrecord r 1 { a: u8; }", "record r 1 { a: u8; } # the end", "record r 1 { a: u8; }#",
            "record r 1 { # } ; u8 # again\n a: u8; # x\n # y\n }", "record r# 2\n1 { a: u8; }",
            "record r 1 { a: u8#big\n; }", "#\n#\n#record\nrecord r 1 { a: u8; }",
        ):
            with self.subTest(text=text):
                self.assertEqual(parse_schema(text), self.PLAIN)

    def test_a_remark_holds_any_character_that_is_allowed(self):
        remark = "".join(chr(code) for code in range(32, 127) if code != 37)
        self.assertEqual(parse_schema("#" + remark + "\nrecord r 1 { a: u8; }"), self.PLAIN)

    def test_a_remark_ends_a_run(self):
        self.assertEqual(refusal("record r 1 { a: u#x\n8; }"), (8, "unexpected token"))

    def test_tokens_of_remarks_do_not_count(self):
        self.assertEqual(refusal("# one two three\nrecord r # four\n 1 { ; }"), (5, "unexpected token"))

    def test_a_remark_goes_no_further_than_its_line(self):
        self.assertEqual(refusal("# remark\nremark"), (1, "unexpected token"))

    def test_texts_without_tokens(self):
        for text in ("", " ", "\n", "# only this", "  \n # this\n #and this"):
            with self.subTest(text=text):
                self.assertEqual(parse_schema(text), ())


if __name__ == "__main__":
    unittest.main()
