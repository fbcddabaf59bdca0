"""c10: the classes of errors, their base and their fields."""

import unittest

from recstore.errors import (
    BadArgument, BadField, BadImage, BadJournal, BadSchema, Full, Leased, OutOfRange, RecordError,
)

SAMPLES = (
    (BadSchema, (3, "unexpected token"), {"token": 3, "reason": "unexpected token"}),
    (BadSchema, (0, "text too long"), {"token": 0, "reason": "text too long"}),
    (BadField, ("not active",), {"reason": "not active"}),
    (OutOfRange, (), {}),
    (Full, (), {}),
    (Leased, (), {}),
    (BadImage, (8, "block header"), {"offset": 8, "reason": "block header"}),
    (BadImage, (0, "image length"), {"offset": 0, "reason": "image length"}),
    (BadJournal, (17,), {"place": 17}),
    (BadJournal, (0,), {"place": 0}),
    (BadArgument, ("record",), {"reason": "record"}),
)
CLASSES = (BadSchema, BadField, OutOfRange, Full, Leased, BadImage, BadJournal, BadArgument)


def told(error, arguments):
    """The error as it is caught by the common base."""
    try:
        raise error(*arguments)
    except RecordError as caught:
        return caught


class Bases(unittest.TestCase):
    def test_the_base_of_all_is_a_value_error(self):
        self.assertTrue(issubclass(RecordError, ValueError))

    def test_the_base_itself_can_be_raised_and_caught(self):
        with self.assertRaises(ValueError):
            raise RecordError("some reason")

    def test_each_error_has_the_base(self):
        for error in CLASSES:
            with self.subTest(error=error.__name__):
                self.assertTrue(issubclass(error, RecordError))
                self.assertIsNot(error, RecordError)

    def test_none_of_the_others_is_a_base_of_another(self):
        for error in CLASSES:
            for other in CLASSES + (RecordError,):
                if other is not error:
                    with self.subTest(error=error.__name__, other=other.__name__):
                        self.assertFalse(issubclass(other, error))

    def test_there_are_eight_different_ones(self):
        self.assertEqual(len(set(CLASSES)), 8)


class Fields(unittest.TestCase):
    def test_each_has_its_fields(self):
        for error, arguments, fields in SAMPLES:
            caught = told(error, arguments)
            for name, value in fields.items():
                with self.subTest(error=error.__name__, field=name):
                    self.assertEqual(getattr(caught, name), value)

    def test_it_is_caught_as_what_it_is(self):
        for error, arguments, _ in SAMPLES:
            with self.subTest(error=error.__name__):
                self.assertIs(type(told(error, arguments)), error)
                with self.assertRaises(ValueError):
                    raise error(*arguments)

    def test_fields_belong_to_the_object(self):
        one, other = BadImage(8, "record type"), BadImage(24, "version")
        self.assertEqual((one.offset, one.reason), (8, "record type"))
        self.assertEqual((other.offset, other.reason), (24, "version"))
        first, second = BadSchema(1, "unexpected end"), BadSchema(2, "unexpected token")
        self.assertEqual((first.token, first.reason), (1, "unexpected end"))
        self.assertEqual((second.token, second.reason), (2, "unexpected token"))


if __name__ == "__main__":
    unittest.main()
