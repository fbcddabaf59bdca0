"""k3: the first token with which no schema can go on, texts that end too early, and what is looked for ahead."""

import unittest

from recstore.errors import BadSchema
from recstore.schema import parse_schema

TOKEN, END = "unexpected token", "unexpected end"
LONG, SIGN = (0, "text too long"), (0, "character not allowed")
WORDS = ("u8", "u16", "u32", "i8", "i16", "i32")
RESERVED = WORDS + ("struct", "record", "was", "bits", "one", "of", "list", "ref", "big")


def refusal(text):
    """The token and the reason with which a text is refused, or None."""
    try:
        parse_schema(text)
    except BadSchema as caught:
        return caught.token, caught.reason
    return None


class Ahead(unittest.TestCase):
    PLAIN = "record r 1 { a: u8; }"

    def test_a_text_of_1500_characters(self):
        for filler in (" ", "\n"):
            self.assertIsNone(refusal(self.PLAIN + filler * (1500 - len(self.PLAIN))))
        self.assertIsNone(refusal(self.PLAIN + "#" * (1500 - len(self.PLAIN))))
        self.assertIsNone(refusal(" " * 1500))

    def test_a_text_of_1501_characters(self):
        for filler in (" ", "\n", "#", "x", ";"):
            with self.subTest(filler=filler):
                self.assertEqual(refusal(self.PLAIN + filler * (1501 - len(self.PLAIN))), LONG)
        self.assertEqual(refusal(" " * 1501), LONG)
        self.assertEqual(refusal("x" * 5000), LONG)

    def test_the_length_is_looked_at_ahead_of_all_else(self):
        self.assertEqual(refusal("\t" * 1501), LONG)
        self.assertEqual(refusal("\t" * 1500), SIGN)
        self.assertEqual(refusal("nothing " * 187 + "\t" * 5), LONG)

    def test_characters_that_are_not_allowed(self):
        for code in list(range(0, 10)) + list(range(11, 32)) + [37, 127, 128, 160, 233, 0x2028, 0x1F600]:
            with self.subTest(code=code):
                self.assertEqual(refusal(self.PLAIN + chr(code)), SIGN)
                self.assertEqual(refusal(chr(code)), SIGN)
                self.assertEqual(refusal("record r 1 { a" + chr(code) + ": u8; }"), SIGN)

    def test_characters_that_are_not_allowed_in_remarks(self):
        for code in (0, 9, 13, 37, 127, 233):
            with self.subTest(code=code):
                self.assertEqual(refusal(self.PLAIN + " # " + chr(code) + "\n"), SIGN)
                self.assertEqual(refusal("#" + chr(code) + "\n" + self.PLAIN), SIGN)

    def test_characters_that_are_allowed(self):
        for code in [10] + [code for code in range(32, 127) if code != 37]:
            with self.subTest(code=code):
                self.assertIsNone(refusal("#" + chr(code) + "\n" + self.PLAIN))
                self.assertNotEqual(refusal(self.PLAIN + chr(code)), SIGN)

    def test_characters_are_looked_at_ahead_of_tokens_and_declarations(self):
        self.assertEqual(refusal("nothing at all \t"), SIGN)
        self.assertEqual(refusal("record r 2 { a: u8; } # %"), SIGN)

    def test_tokens_are_looked_at_ahead_of_declarations(self):
        self.assertEqual(refusal("record r 2 { a: s; a: s; } record"), (15, END))
        self.assertEqual(refusal("record r 2 { a: s; a: s; } ;"), (14, TOKEN))


class Tokens(unittest.TestCase):
    def test_the_first_token(self):
        for text in ("a", "1", "{", "nothing", "structs s { a: u8; }", "$", "Record r 1 { a: u8; }", "- record"):
            with self.subTest(text=text):
                self.assertEqual(refusal(text), (1, TOKEN))

    def test_tokens_in_the_middle(self):
        self.assertEqual(refusal("record r 1 { a u8; }"), (6, TOKEN))
        self.assertEqual(refusal("struct s { a: u8; } record r 1 { b: bits u8 { x 1; y 2 }; c; }"), (20, TOKEN))

    def test_only_the_first_one_is_told(self):
        self.assertEqual(refusal("record r 1 { a: ; b u8; } }"), (7, TOKEN))
        self.assertEqual(refusal("record 1 r { ; }"), (2, TOKEN))

    def test_the_last_token(self):
        self.assertEqual(refusal("record r 1 { a: u8; };"), (10, TOKEN))
        self.assertEqual(refusal("record r 1 { a: u8; } }"), (10, TOKEN))
        self.assertEqual(refusal("record r 1 { a: u8; ]"), (9, TOKEN))

    def test_tokens_that_fit_nowhere(self):
        for token in ("ninechars", "01", "1234567890", "9a", "$", "A", "\\"):
            with self.subTest(token=token):
                self.assertEqual(refusal(token), (1, TOKEN))
                self.assertEqual(refusal("record r 1 { a: u8 = " + token + "; }"), (9, TOKEN))
                self.assertEqual(refusal("record r 1 { a: u8; } " + token), (10, TOKEN))

    def test_texts_that_end_too_early(self):
        whole = "record r 1 { a was b : bits u8 big { x 1 , y 2 } = - 5 ; c : one of s , t ; d : 2 of u8 ; e : list of u8 }"
        tokens = whole.split()
        for many in range(1, len(tokens)):
            with self.subTest(many=many):
                self.assertEqual(refusal(" ".join(tokens[:many])), (many + 1, END))
        self.assertEqual(refusal(whole), (len(tokens), TOKEN))

    def test_texts_that_end_too_early_behind_a_declaration(self):
        for text, many in (("record", 1), ("struct", 1), ("record q", 2), ("record q 1 {", 4), ("struct q {", 3)):
            with self.subTest(text=text):
                self.assertEqual(refusal("record r 1 { a: u8; } " + text), (9 + many + 1, END))

    def test_remarks_and_spaces_behind_the_end(self):
        self.assertEqual(refusal("record r 1 { # } \n\n  "), (5, END))
        self.assertEqual(refusal("struct # s"), (2, END))

    def test_no_fault_is_seen_behind_the_token_that_is_refused(self):
        self.assertEqual(refusal("struct u8"), (2, TOKEN))
        self.assertEqual(refusal("record r 5"), (3, TOKEN))
        self.assertEqual(refusal("record r"), (3, END))


# The language once more, as data: a rule is a tuple of choices, each a tuple of rules and tests of tokens.

def is_name(token):
    if not (token.isascii() and token.isalnum() and token.islower()):
        return False
    return token[0].isalpha() and len(token) <= 8 and token not in RESERVED


def number(least, greatest):
    def is_number(token):
        return token.isascii() and token.isdigit() and str(int(token)) == token and least <= int(token) <= greatest
    return is_number


def word(*tokens):
    return lambda token: token in tokens


GRAMMAR = {
    "schema": ((), ("declaration", "schema")),
    "declaration": (
        (word("struct"), is_name, word("{"), "field", "fields", word("}")),
        (word("record"), is_name, number(1, 4), word("{"), "field", "fields", word("}")),
    ),
    "fields": ((), ("field", "fields")),
    "field": ((is_name, "was", word(":"), "kind", "initial", word(";")),),
    "was": ((), (word("was"), is_name)),
    "initial": ((), (word("="), "minus", number(0, 999999999))),
    "minus": ((), (word("-"),)),
    "kind": (
        ("item",), (word("bits"), word("u8", "u16", "u32"), "big", word("{"), "bit", "bits", word("}")),
        (number(1, 6), word("of"), "item"), (word("one"), word("of"), is_name, "names"),
        (word("list"), word("of"), "item"), (word("ref"), is_name),
    ),
    "item": ((word(*WORDS), "big"), (is_name,)),
    "big": ((), (word("big"),)),
    "bits": ((), (word(","), "bit", "bits")),
    "bit": ((is_name, number(1, 32)),),
    "names": ((), (word(","), is_name, "names")),
}


def unfolded(stack):
    """All stacks that begin with a test of a token, or are empty, to which a stack can be unfolded."""
    if not stack or not isinstance(stack[0], str):
        return [stack]
    return [found for choice in GRAMMAR[stack[0]] for found in unfolded(choice + stack[1:])]


def first_fault(tokens):
    """What k3 says of tokens: all ways to go on are kept side by side."""
    stacks = unfolded(("schema",))
    for place, token in enumerate(tokens):
        following = [stack[1:] for stack in stacks if stack and stack[0](token)]
        stacks = [found for stack in following for found in unfolded(stack)]
        if not stacks:
            return place + 1, TOKEN
    return None if () in stacks else (len(tokens) + 1, END)


class Everywhere(unittest.TestCase):
    WHOLE = (
        "struct s { a : u8 ; b was c : i16 big = - 7 ; } record r 1 { d : bits u16 big { x 1 , y 32 } ; e : one of s , t"
        " ; f : 6 of u32 ; g : 2 of s = 3 ; } record r 2 { h : list of i8 ; i : list of s ; j : ref r ; k : s ; }"
    ).split()
    SAMPLES = RESERVED + (
        "{", "}", ":", ";", ",", "=", "-", "name", "longname", "longnames", "0", "1", "2", "4", "5", "6", "7", "32",
        "33", "999999999", "1000000000", "00", "7a", "A", "$",
    )

    def check(self, tokens):
        told = refusal(" ".join(tokens))
        expected = first_fault(tokens)
        if expected is None:
            # What fits the language can still be refused as a whole (k4).
            self.assertTrue(told is None or told[0] == 0, (tokens, told))
        else:
            self.assertEqual(told, expected, tokens)

    def test_each_token_replaced_by_each_other(self):
        for place in range(len(self.WHOLE)):
            for token in self.SAMPLES:
                self.check(self.WHOLE[:place] + [token] + self.WHOLE[place + 1:])

    def test_each_token_left_out_and_put_in(self):
        for place in range(len(self.WHOLE) + 1):
            self.check(self.WHOLE[:place] + self.WHOLE[place + 1:])
            for token in self.SAMPLES:
                self.check(self.WHOLE[:place] + [token] + self.WHOLE[place:])

    def test_each_beginning(self):
        for many in range(len(self.WHOLE) + 1):
            self.check(self.WHOLE[:many])


if __name__ == "__main__":
    unittest.main()
