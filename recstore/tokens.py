"""The tokens of the text of a schema (k1), and which of them are names and numbers."""

LETTERS = "abcdefghijklmnopqrstuvwxyz"
DIGITS = "0123456789"
RUN = "abcdefghijklmnopqrstuvwxyz0123456789"
LONGEST_NAME = 8
LONGEST_NUMBER = 9
RESERVED = (
    "struct", "record", "was", "bits", "one", "of", "list", "ref", "big", "u8", "u16", "u32", "i8", "i16", "i32",
)


def split_tokens(text):
    """The list of the tokens of a text, without what stands between them."""
    found = []
    for line in text.split("\n"):
        found.extend(_line_tokens(line.partition("#")[0]))
    return found


def is_name(token):
    """Whether a token is an identifier (c2)."""
    if token == "" or len(token) > LONGEST_NAME or token in RESERVED:
        return False
    return token[0] in LETTERS and all([sign in RUN for sign in token])


def is_number(token):
    """Whether a token is a number."""
    if token == "" or len(token) > LONGEST_NUMBER:
        return False
    return all([sign in DIGITS for sign in token]) and (token == "0" or token[0] != "0")


def _line_tokens(line):
    """The tokens of a line that has no remark."""
    found = []
    run = ""
    # The space behind the line ends a run that goes on to its end.
    for sign in line + " ":
        if sign in RUN:
            run += sign
        else:
            found.extend([token for token in (run, sign) if token not in ("", " ")])
            run = ""
    return found
