"""Schemas are read from their texts (k1 to k4)."""

from recstore.checks import check_schema
from recstore.errors import BadSchema
from recstore.grammar import read_schema
from recstore.tokens import split_tokens

MOST_CHARACTERS = 1500
PERCENT_SIGN = 37


def parse_schema(text):
    """The schema (c4) that a text tells; raises BadSchema."""
    if len(text) > MOST_CHARACTERS:
        raise BadSchema(0, "text too long")
    if not all([_is_allowed(sign) for sign in text]):
        raise BadSchema(0, "character not allowed")
    schema = read_schema(split_tokens(text))
    check_schema(schema)
    return schema


def _is_allowed(sign):
    """Whether a character may stand in the text of a schema."""
    return sign == "\n" or (" " <= sign <= "~" and ord(sign) != PERCENT_SIGN)
