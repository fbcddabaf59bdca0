"""b1 to b5, c9: all bytes of a store behind taking, giving back, pushing together and growing."""

import unittest

from recstore.blocks import blocks, empty, find_block, give_back, grow, push_together, take, used
from recstore.errors import Full


def free(units):
    return [units, 0, 0, 0, 0, 0, 0, 0] + [0] * (8 * units - 8)


def block(units, kind, version, number, fill=0):
    """A block whose body has this byte everywhere."""
    return [units, 0, kind, version, number & 255, number >> 8, 0, 0] + [fill] * (8 * units - 8)


def fill(data, offset, byte):
    """Puts a byte everywhere into the body of a block."""
    for place in range(offset + 8, offset + 8 * data[offset]):
        data[place] = byte


def store(*parts):
    """A store of these blocks, with what is left as a free block."""
    return [byte for part in parts for byte in part]


class Empty(unittest.TestCase):
    def test_one_free_block(self):
        for size in (64, 72, 128, 1016, 1024):
            with self.subTest(size=size):
                self.assertEqual(empty(size), free(size // 8))
                self.assertEqual(blocks(empty(size)), [(0, size, 0, 0)])
                self.assertEqual(used(empty(size)), 0)

    def test_it_is_new_each_time(self):
        first = empty(64)
        first[0] = 1
        self.assertEqual(empty(64), free(8))


class Blocks(unittest.TestCase):
    DATA = store(block(2, 1, 1, 7), free(1), block(3, 2, 128, 300, 9), block(1, 2, 129, 300), free(4))

    def test_blocks(self):
        self.assertEqual(
            blocks(self.DATA),
            [(0, 16, 7, 1), (16, 8, 0, 0), (24, 24, 300, 128), (48, 8, 300, 129), (56, 32, 0, 0)],
        )

    def test_large_numbers(self):
        data = empty(1024)
        take(data, 128, 255, 4, 9999)
        self.assertEqual(data[:8], [128, 0, 255, 4, 15, 39, 0, 0])
        self.assertEqual(blocks(data), [(0, 1024, 9999, 4)])

    def test_used(self):
        self.assertEqual(used(self.DATA), 48)
        self.assertEqual(used(store(block(8, 1, 1, 1))), 64)

    def test_find_block(self):
        for number, version, offset in (
            (7, 1, 0), (7, None, 0), (300, 128, 24), (300, 129, 48), (300, None, None), (300, 1, None), (7, 2, None),
            (7, 128, None), (8, 1, None), (8, None, None), (0, 0, None), (0, None, None), (300, 130, None),
        ):
            with self.subTest(number=number, version=version):
                self.assertEqual(find_block(self.DATA, number, version), offset)

    def test_find_block_behind_others(self):
        data = store(block(1, 1, 128, 5), block(1, 1, 3, 4), block(1, 1, 129, 5), block(2, 1, 127, 5), free(3))
        self.assertEqual(find_block(data, 5, None), 24)
        self.assertEqual(find_block(data, 5, 127), 24)
        self.assertEqual(find_block(data, 4, None), 8)
        self.assertEqual((find_block(data, 5, 128), find_block(data, 5, 129)), (0, 16))

    def test_questions_change_nothing(self):
        data = list(self.DATA)
        blocks(data), used(data), find_block(data, 7, 1), find_block(data, 9, None)
        self.assertEqual(data, self.DATA)


class Take(unittest.TestCase):
    def test_from_the_beginning(self):
        data = empty(64)
        self.assertEqual(take(data, 3, 2, 4, 258), 0)
        self.assertEqual(data, store(block(3, 2, 4, 258), free(5)))
        self.assertEqual(take(data, 1, 1, 130, 9999), 24)
        self.assertEqual(data, store(block(3, 2, 4, 258), block(1, 1, 130, 9999), free(4)))

    def test_all_of_a_free_block(self):
        data = empty(64)
        self.assertEqual(take(data, 8, 1, 1, 1), 0)
        self.assertEqual(data, block(8, 1, 1, 1))
        data = store(block(2, 1, 1, 1), free(2), block(4, 1, 1, 2))
        self.assertEqual(take(data, 2, 3, 2, 3), 16)
        self.assertEqual(data, store(block(2, 1, 1, 1), block(2, 3, 2, 3), block(4, 1, 1, 2)))

    def test_the_lowest_that_has_enough(self):
        data = store(free(1), block(1, 1, 1, 1, 5), free(3), block(1, 1, 1, 2, 6), free(2))
        self.assertEqual(take(data, 2, 1, 1, 3), 16)
        self.assertEqual(data, store(free(1), block(1, 1, 1, 1), block(2, 1, 1, 3), free(1), block(1, 1, 1, 2), free(2)))

    def test_not_the_one_that_fits_best(self):
        data = store(free(4), block(1, 1, 1, 1), free(2), block(1, 1, 1, 2))
        self.assertEqual(take(data, 2, 1, 1, 3), 0)
        self.assertEqual(data, store(block(2, 1, 1, 3), free(2), block(1, 1, 1, 1), free(2), block(1, 1, 1, 2)))

    def test_pushed_together_where_there_is_none(self):
        data = store(free(2), block(2, 1, 1, 1, 5), free(1), block(1, 2, 128, 2), free(2))
        self.assertEqual(take(data, 3, 1, 3, 3), 24)
        self.assertEqual(data, store(block(2, 1, 1, 1, 5), block(1, 2, 128, 2), block(3, 1, 3, 3), free(2)))

    def test_pushed_together_only_where_there_is_none(self):
        data = store(free(1), block(2, 1, 1, 1, 5), free(2), block(1, 1, 1, 2), free(2))
        take(data, 2, 1, 1, 3)
        self.assertEqual(data, store(free(1), block(2, 1, 1, 1, 5), block(2, 1, 1, 3), block(1, 1, 1, 2), free(2)))

    def test_pushed_together_to_the_last_unit(self):
        data = store(free(2), block(2, 1, 1, 1, 5), free(1), block(1, 2, 128, 2), free(2))
        self.assertEqual(take(data, 5, 1, 1, 3), 24)
        self.assertEqual(data, store(block(2, 1, 1, 1, 5), block(1, 2, 128, 2), block(5, 1, 1, 3)))

    def test_full(self):
        parts = (free(2), block(2, 1, 1, 1, 5), free(1), block(1, 2, 128, 2), free(2))
        for units in (6, 7, 8, 100):
            with self.subTest(units=units):
                data = store(*parts)
                with self.assertRaises(Full):
                    take(data, units, 1, 1, 3)
                self.assertEqual(data, store(*parts))

    def test_full_without_a_free_block(self):
        data = store(block(4, 1, 1, 1, 5), block(4, 1, 1, 2, 6))
        with self.assertRaises(Full):
            take(data, 1, 1, 1, 3)
        self.assertEqual(data, store(block(4, 1, 1, 1, 5), block(4, 1, 1, 2, 6)))

    def test_full_of_an_empty_store(self):
        data = empty(64)
        with self.assertRaises(Full):
            take(data, 9, 1, 1, 1)
        self.assertEqual(data, free(8))


class GiveBack(unittest.TestCase):
    def test_between_others(self):
        data = store(block(2, 1, 1, 1, 5), block(2, 1, 1, 2, 6), block(4, 1, 1, 3, 7))
        self.assertIsNone(give_back(data, 16))
        self.assertEqual(data, store(block(2, 1, 1, 1, 5), free(2), block(4, 1, 1, 3, 7)))

    def test_a_free_one_ahead(self):
        data = store(free(2), block(2, 1, 1, 2, 6), block(4, 1, 1, 3, 7))
        give_back(data, 16)
        self.assertEqual(data, store(free(4), block(4, 1, 1, 3, 7)))

    def test_a_free_one_behind(self):
        data = store(block(2, 1, 1, 1, 5), block(2, 1, 1, 2, 6), free(4))
        give_back(data, 16)
        self.assertEqual(data, store(block(2, 1, 1, 1, 5), free(6)))

    def test_between_free_ones(self):
        data = store(block(1, 1, 1, 1, 5), free(1), block(2, 1, 1, 2, 6), free(3), block(1, 1, 1, 3))
        give_back(data, 16)
        self.assertEqual(data, store(block(1, 1, 1, 1, 5), free(6), block(1, 1, 1, 3)))

    def test_other_free_ones_stay(self):
        data = store(free(1), block(1, 1, 1, 1), block(2, 1, 1, 2, 6), block(1, 1, 1, 3), free(3))
        give_back(data, 16)
        self.assertEqual(data, store(free(1), block(1, 1, 1, 1), free(2), block(1, 1, 1, 3), free(3)))

    def test_the_first_the_last_and_the_only_one(self):
        data = store(block(2, 1, 1, 1, 5), block(6, 1, 1, 2, 6))
        give_back(data, 16)
        self.assertEqual(data, store(block(2, 1, 1, 1, 5), free(6)))
        give_back(data, 0)
        self.assertEqual(data, free(8))
        data = block(8, 1, 1, 1, 5)
        give_back(data, 0)
        self.assertEqual(data, free(8))


class PushTogether(unittest.TestCase):
    def check(self, before, after):
        data = list(before)
        self.assertIsNone(push_together(data))
        self.assertEqual(data, after)

    def test_free_ones_ahead_behind_and_between(self):
        one, two, three = block(2, 1, 1, 1, 5), block(1, 2, 128, 300), block(3, 1, 2, 2, 255)
        self.check(store(free(1), one, free(2), two, three, free(4)), store(one, two, three, free(7)))
        self.check(store(free(2), one, two, three), store(one, two, three, free(2)))
        self.check(store(one, free(1), two, free(1), three), store(one, two, three, free(2)))

    def test_what_is_together_stays(self):
        for data in (
            free(8), block(8, 1, 1, 1, 5), store(block(2, 1, 1, 1, 5), block(6, 1, 1, 2, 6)),
            store(block(2, 1, 1, 1, 5), free(6)),
        ):
            self.check(data, data)

    def test_the_order_stays(self):
        parts = [block(1, 1, 1, number) for number in (5, 3, 9, 1)]
        self.check(store(parts[0], free(1), parts[1], parts[2], free(1), parts[3], free(2)), store(*parts, free(4)))


class Grow(unittest.TestCase):
    def check(self, before, size, after):
        data = list(before)
        self.assertIsNone(grow(data, size))
        self.assertEqual(data, after)

    def test_behind_a_free_block(self):
        self.check(free(8), 72, free(9))
        self.check(free(8), 1024, free(128))
        self.check(store(free(1), block(6, 1, 1, 1, 5), free(1)), 80, store(free(1), block(6, 1, 1, 1, 5), free(3)))

    def test_behind_a_block_that_is_not_free(self):
        self.check(block(8, 1, 1, 1, 5), 72, store(block(8, 1, 1, 1, 5), free(1)))
        self.check(store(free(2), block(6, 1, 1, 1, 5)), 128, store(free(2), block(6, 1, 1, 1, 5), free(8)))

    def test_what_is_new_can_be_taken(self):
        data = block(8, 1, 1, 1, 5)
        grow(data, 88)
        self.assertEqual(take(data, 3, 1, 1, 2), 64)
        self.assertEqual(data, store(block(8, 1, 1, 1, 5), block(3, 1, 1, 2)))


class Example(unittest.TestCase):
    def test_the_example_of_the_interface(self):
        data = empty(64)
        told = take(data, 2, 1, 1, 1), take(data, 3, 1, 1, 2), give_back(data, 0), take(data, 1, 1, 1, 3)
        self.assertEqual(told, (0, 16, None, 0))
        self.assertEqual(blocks(data), [(0, 8, 3, 1), (8, 8, 0, 0), (16, 24, 2, 1), (40, 24, 0, 0)])


class Plain:
    """Blocks as a list of their bytes, free ones as numbers of units."""

    def __init__(self, units):
        self.parts = [units]

    def bytes(self):
        return [byte for part in self.parts for byte in (free(part) if isinstance(part, int) else part)]

    def tidy(self):
        parts = []
        for part in self.parts:
            if isinstance(part, int) and parts and isinstance(parts[-1], int):
                parts[-1] += part
            elif part != 0:
                parts.append(part)
        self.parts = parts

    def taken(self):
        return [part for part in self.parts if not isinstance(part, int)]

    def room(self):
        return sum(part for part in self.parts if isinstance(part, int))

    def push_together(self):
        self.parts = self.taken() + [self.room()]
        self.tidy()

    def take(self, new):
        units = len(new) // 8
        if all(not isinstance(part, int) or part < units for part in self.parts):
            self.push_together()
        place = [isinstance(part, int) and part >= units for part in self.parts].index(True)
        self.parts[place:place + 1] = [new, self.parts[place] - units]
        self.tidy()

    def give_back(self, number):
        self.parts = [len(part) // 8 if part in self.taken() and part[4] == number else part for part in self.parts]
        self.tidy()

    def grow(self, units):
        self.parts.append(units)
        self.tidy()


class Rows(unittest.TestCase):
    """Long rows of calls, against plain blocks."""

    def test_rows_of_calls(self):
        for seed in range(30):
            self.run_row(seed)

    def run_row(self, seed):
        state = seed * 7919 + 1

        def pick(many):
            nonlocal state
            state = (state * 1103515245 + 12345) % 2 ** 31
            return state // 65536 % many

        data, plain = empty(128), Plain(16)
        for number in range(1, 120):
            choice = pick(10)
            if choice < 6:
                new = block(1 + pick(4), 1 + pick(3), 1 + pick(4), number, 0)
                if len(new) // 8 <= plain.room():
                    plain.take(list(new))
                    offset = take(data, len(new) // 8, new[2], new[3], number)
                    self.assertEqual(data[offset:offset + len(new)], new)
                    fill(data, offset, number)
                    part = [part for part in plain.taken() if part[4] == number][0]
                    part[8:] = [number] * (len(part) - 8)
                else:
                    with self.assertRaises(Full):
                        take(data, len(new) // 8, new[2], new[3], number)
            elif choice < 9 and plain.taken():
                gone = plain.taken()[pick(len(plain.taken()))][4]
                plain.give_back(gone)
                give_back(data, find_block(data, gone, None))
            elif pick(4) == 0 and len(data) < 200:
                plain.grow(1 + pick(2))
                grow(data, len(plain.bytes()))
            elif pick(2) == 0:
                plain.push_together()
                push_together(data)
            self.assertEqual(data, plain.bytes(), (seed, number))
            self.assertEqual(used(data), 8 * (len(data) // 8 - plain.room()))


if __name__ == "__main__":
    unittest.main()
