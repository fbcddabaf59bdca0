"""c1, z1, z2 and the interface of recstore/integers.py."""

import itertools
import unittest

from recstore.errors import OutOfRange
from recstore.integers import bounds, read_slot, read_word, write_slot, write_word

ORDERS = {False: "little", True: "big"}
BEFORE = [7, 129, 64]
BEHIND = [255, 0, 90]
FILLINGS = ([0, 0, 0, 0], [255, 255, 255, 255], [165, 90, 60, 129], [1, 2, 4, 8], [0, 255, 128, 127])


def every_slot():
    """All (size, big, first, width, signed)."""
    for size in (1, 2, 4):
        for first in range(8 * size):
            for width in range(1, 8 * size - first + 1):
                for big, signed in itertools.product((False, True), repeat=2):
                    yield size, big, first, width, signed


def limits(width, signed):
    return (-2 ** (width - 1), 2 ** (width - 1) - 1) if signed else (0, 2 ** width - 1)


def within(width, signed):
    """The least and the greatest integer of a slot, and some between."""
    least, greatest = limits(width, signed)
    near = (least, least + 1, -1, 0, 1, (least + greatest) // 2, greatest // 3, greatest - 1, greatest)
    return sorted({value for value in near if least <= value <= greatest})


def outside(width, signed):
    """One beyond each end, and integers of any size."""
    least, greatest = limits(width, signed)
    values = {least - 1, greatest + 1, least - 2, greatest + 2, least - 2 ** width, greatest + 2 ** width}
    for power in (width, 32, 33, 64, 200):
        values |= {greatest + 2 ** power, least - 2 ** power}
    return sorted(values | {10 ** 40, -10 ** 40})


def number_of(word, big):
    return int.from_bytes(bytes(word), ORDERS[big])


def integer_in(word, big, first, width, signed):
    """What c1 says that the slot of a word holds."""
    digits = [number_of(word, big) // 2 ** bit % 2 for bit in range(first, first + width)]
    value = sum(digit * 2 ** bit for bit, digit in enumerate(digits))
    return value - 2 ** width if signed and digits[-1] else value


class Bounds(unittest.TestCase):
    def test_all_widths(self):
        for width in range(1, 33):
            for signed in (False, True):
                with self.subTest(width=width, signed=signed):
                    self.assertEqual(bounds(width, signed), limits(width, signed))

    def test_some_by_hand(self):
        self.assertEqual(bounds(1, False), (0, 1))
        self.assertEqual(bounds(1, True), (-1, 0))
        self.assertEqual(bounds(8, False), (0, 255))
        self.assertEqual(bounds(8, True), (-128, 127))
        self.assertEqual(bounds(31, True), (-1073741824, 1073741823))
        self.assertEqual(bounds(32, False), (0, 4294967295))
        self.assertEqual(bounds(32, True), (-2147483648, 2147483647))


class Reading(unittest.TestCase):
    def test_every_slot(self):
        for size, big, first, width, signed in every_slot():
            for filling in FILLINGS:
                word = filling[:size]
                data = BEFORE + word + BEHIND
                before = list(data)
                answer = read_slot(data, len(BEFORE), size, big, first, width, signed)
                told = (size, big, first, width, signed, word)
                self.assertEqual(answer, integer_in(word, big, first, width, signed), told)
                self.assertEqual(data, before, told)

    def test_some_by_hand(self):
        data = [1, 2, 3, 4, 254, 255]
        self.assertEqual(read_slot(data, 0, 2, False, 0, 16, False), 513)
        self.assertEqual(read_slot(data, 0, 2, True, 0, 16, False), 258)
        self.assertEqual(read_slot(data, 0, 4, False, 0, 32, False), 67305985)
        self.assertEqual(read_slot(data, 0, 4, True, 0, 32, False), 16909060)
        self.assertEqual(read_slot(data, 4, 2, False, 0, 16, True), -2)
        self.assertEqual(read_slot(data, 4, 2, True, 0, 16, True), -257)
        self.assertEqual(read_slot(data, 4, 2, False, 8, 8, False), 255)
        self.assertEqual(read_slot(data, 4, 2, True, 8, 8, False), 254)
        self.assertEqual(read_slot(data, 5, 1, False, 7, 1, False), 1)
        self.assertEqual(read_slot(data, 5, 1, False, 7, 1, True), -1)
        self.assertEqual(read_slot(data, 2, 1, False, 1, 3, True), 1)

    def test_the_last_byte_of_the_data_can_be_that_of_the_word(self):
        self.assertEqual(read_slot([0, 0, 5], 2, 1, False, 0, 8, False), 5)
        self.assertEqual(read_slot([0, 5, 6], 1, 2, True, 0, 16, False), 1286)


class Writing(unittest.TestCase):
    def test_every_slot(self):
        for size, big, first, width, signed in every_slot():
            for filling, value in itertools.product(FILLINGS, within(width, signed)):
                self.check_written(filling[:size], big, first, width, signed, value)

    def check_written(self, word, big, first, width, signed, value):
        size = len(word)
        told = (size, big, first, width, signed, word, value)
        data = BEFORE + word + BEHIND
        write_slot(data, len(BEFORE), size, big, first, width, signed, value)
        written = data[len(BEFORE):len(BEFORE) + size]
        self.assertEqual(data[:len(BEFORE)], BEFORE, told)
        self.assertEqual(data[len(BEFORE) + size:], BEHIND, told)
        self.assertTrue(all(0 <= byte <= 255 for byte in written), told)
        slot = (2 ** width - 1) * 2 ** first
        self.assertEqual(number_of(written, big) & ~slot, number_of(word, big) & ~slot, told)
        self.assertEqual(integer_in(written, big, first, width, signed), value, told)
        self.assertEqual(read_slot(data, len(BEFORE), size, big, first, width, signed), value, told)

    def test_some_by_hand(self):
        data = [0] * 6
        write_slot(data, 1, 4, False, 0, 32, False, 67305985)
        self.assertEqual(data, [0, 1, 2, 3, 4, 0])
        write_slot(data, 1, 4, True, 0, 32, False, 67305985)
        self.assertEqual(data, [0, 4, 3, 2, 1, 0])
        write_slot(data, 2, 2, True, 0, 16, True, -2)
        self.assertEqual(data, [0, 4, 255, 254, 1, 0])
        write_slot(data, 2, 2, False, 15, 1, False, 0)
        self.assertEqual(data, [0, 4, 255, 126, 1, 0])
        write_slot(data, 2, 2, True, 15, 1, True, 0)
        self.assertEqual(data, [0, 4, 127, 126, 1, 0])
        write_slot(data, 5, 1, False, 3, 2, True, -1)
        self.assertEqual(data, [0, 4, 127, 126, 1, 24])

    def test_the_example_of_the_document(self):
        data = [0, 0, 0, 0]
        write_slot(data, 1, 2, True, 0, 16, False, 258)
        write_slot(data, 3, 1, False, 2, 3, True, -2)
        self.assertEqual(data, [0, 1, 2, 24])
        self.assertEqual(read_slot(data, 3, 1, False, 2, 3, True), -2)
        self.assertEqual(read_slot(data, 1, 2, False, 0, 16, False), 513)


class Refusing(unittest.TestCase):
    def test_every_slot(self):
        for size, big, first, width, signed in every_slot():
            for value in outside(width, signed):
                for filling in FILLINGS[1:3]:
                    self.check_refused(filling[:size], big, first, width, signed, value)

    def check_refused(self, word, big, first, width, signed, value):
        size = len(word)
        data = BEFORE + word + BEHIND
        before = list(data)
        try:
            write_slot(data, len(BEFORE), size, big, first, width, signed, value)
        except OutOfRange:
            self.assertEqual(data, before, (size, big, first, width, signed, value))
        else:
            self.fail((size, big, first, width, signed, value))

    def test_bits_that_would_fit_do_not_make_an_integer_fit(self):
        for value, signed in ((-1, False), (-128, False), (256, False), (128, True), (255, True), (-129, True)):
            data = [3, 3, 3]
            with self.subTest(value=value, signed=signed):
                with self.assertRaises(OutOfRange):
                    write_slot(data, 1, 1, False, 0, 8, signed, value)
                self.assertEqual(data, [3, 3, 3])

    def test_one_bit(self):
        for value, signed in ((2, False), (-1, False), (1, True), (-2, True)):
            data = [255]
            with self.subTest(value=value, signed=signed):
                with self.assertRaises(OutOfRange):
                    write_slot(data, 0, 1, False, 4, 1, signed, value)
                self.assertEqual(data, [255])


class Words(unittest.TestCase):
    def test_all_sizes_at_all_offsets(self):
        for size, offset in itertools.product((1, 2, 4), range(7)):
            greatest = 256 ** size - 1
            for value in (0, 1, 2, 127, 128, 200, 255, greatest // 3, greatest // 2 + 1, greatest - 1, greatest):
                with self.subTest(size=size, offset=offset, value=value):
                    data = list(range(20, 32))
                    before = list(data)
                    write_word(data, offset, size, value)
                    expected = before[:offset] + list(value.to_bytes(size, "little")) + before[offset + size:]
                    self.assertEqual(data, expected)
                    self.assertEqual(read_word(data, offset, size), value)
                    self.assertEqual(data, expected)

    def test_some_by_hand(self):
        data = [9, 0, 0, 0, 0, 9]
        write_word(data, 1, 4, 4278255873)
        self.assertEqual(data, [9, 1, 1, 1, 255, 9])
        write_word(data, 3, 2, 513)
        self.assertEqual(data, [9, 1, 1, 1, 2, 9])
        write_word(data, 5, 1, 128)
        self.assertEqual(data, [9, 1, 1, 1, 2, 128])
        self.assertEqual(read_word(data, 4, 2), 32770)
        self.assertEqual(read_word(data, 2, 4), 2147614977)
        self.assertEqual(read_word(data, 5, 1), 128)


# Each plan: the bytes at first, and slots without a common bit: (offset, size, big, first, width, signed).
ONE_WORD = (
    ([255], ((0, 1, False, 0, 1, False), (0, 1, False, 1, 3, True), (0, 1, False, 6, 2, False))),
    ([90], ((0, 1, True, 7, 1, True), (0, 1, True, 0, 4, True), (0, 1, True, 4, 2, False))),
    ([60, 195], ((0, 2, False, 0, 3, False), (0, 2, False, 3, 7, True), (0, 2, False, 12, 4, False))),
    ([60, 195], ((0, 2, True, 0, 3, True), (0, 2, True, 4, 8, False), (0, 2, True, 13, 3, True))),
    ([1, 2, 3, 4], ((0, 4, False, 0, 9, False), (0, 4, False, 9, 14, True), (0, 4, False, 31, 1, False))),
    ([255, 254, 253, 252], ((0, 4, True, 1, 7, True), (0, 4, True, 8, 17, False), (0, 4, True, 25, 7, True))),
    ([0, 0, 0, 0], ((0, 4, True, 0, 31, True), (0, 4, True, 31, 1, True))),
)
SIDE_BY_SIDE = (
    ([85] * 9, ((1, 1, False, 0, 8, True), (2, 2, True, 0, 16, False), (4, 4, False, 0, 32, True))),
    ([170] * 8, ((0, 2, False, 9, 5, False), (2, 2, False, 0, 16, True), (4, 4, True, 3, 20, True))),
    ([51] * 8, ((0, 4, True, 0, 8, False), (0, 4, True, 24, 8, True), (4, 4, False, 0, 8, True),
                (4, 4, False, 8, 24, False))),
    ([204] * 5, ((0, 1, False, 7, 1, False), (1, 2, False, 0, 1, True), (1, 2, False, 15, 1, True),
                 (3, 1, False, 0, 1, False))),
)


def bits_of(slot):
    """The places in the data of the bits of a slot: (byte, bit), from the lowest on."""
    offset, size, big, first, width, _ = slot
    digits = range(first, first + width)
    return [(offset + (size - 1 - bit // 8 if big else bit // 8), bit % 8) for bit in digits]


class Together(unittest.TestCase):
    def test_slots_of_one_word(self):
        for filling, slots in ONE_WORD:
            self.check_plan(filling, slots)

    def test_words_side_by_side(self):
        for filling, slots in SIDE_BY_SIDE:
            self.check_plan(filling, slots)

    def check_plan(self, filling, slots):
        for order in itertools.permutations(slots):
            data = list(filling)
            held = {slot: read_slot(data, *slot) for slot in slots}
            for turn, slot in enumerate(order * 4):
                values = within(slot[4], slot[5])
                held[slot] = values[(turn * 5 + 2) % len(values)]
                write_slot(data, *slot, held[slot])
                self.check_held(data, held, filling)

    def check_held(self, data, held, filling):
        for slot, value in held.items():
            self.assertEqual(read_slot(data, *slot), value, (slot, data))
        owned = {bit for slot in held for bit in bits_of(slot)}
        for place, (byte, first) in enumerate(zip(data, filling)):
            for bit in range(8):
                if (place, bit) not in owned:
                    self.assertEqual(byte >> bit & 1, first >> bit & 1, (place, bit))

    def test_an_integer_that_is_refused_changes_no_slot(self):
        data = [0, 0]
        write_slot(data, 0, 2, False, 0, 5, False, 21)
        write_slot(data, 0, 2, False, 5, 6, True, -9)
        for value in (32, -33, 10 ** 20):
            with self.assertRaises(OutOfRange):
                write_slot(data, 0, 2, False, 5, 6, True, value)
            self.assertEqual(read_slot(data, 0, 2, False, 0, 5, False), 21)
            self.assertEqual(read_slot(data, 0, 2, False, 5, 6, True), -9)
            self.assertEqual(read_slot(data, 0, 2, False, 11, 5, False), 0)


if __name__ == "__main__":
    unittest.main()
