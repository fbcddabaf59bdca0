"""s1, s2, s3 and finish of d3: works, one byte a step."""

import itertools
import unittest

from recstore.errors import OutOfRange
from recstore.integers import bounds, read_slot, write_slot
from recstore.steps import Work

KINDS = ("get", "set", "add", "exchange", "copy")
# Slots that are the whole word and slots that are a part of it: (size, big, first, width, signed).
SLOTS = [
    (1, False, 0, 8, False), (1, True, 0, 8, True), (1, False, 0, 3, False), (1, False, 3, 5, False), (1, True, 7, 1, False),
    (2, False, 0, 16, False), (2, True, 0, 16, True), (2, True, 3, 9, False), (2, False, 15, 1, False), (2, False, 0, 15, True),
    (4, False, 0, 32, True), (4, True, 0, 32, False), (4, False, 5, 20, False), (4, True, 0, 31, False), (4, True, 31, 1, True),
]
PATTERN = [(37 * place + 11) % 256 for place in range(24)]


class Watched(list):
    """Bytes that tell which of them are read and written."""

    def __init__(self, content):
        super().__init__(content)
        self.seen = []

    def __getitem__(self, at):
        self.seen.append(("read", at))
        return super().__getitem__(at)

    def __setitem__(self, at, byte):
        self.seen.append(("write", at))
        super().__setitem__(at, byte)


def whole(slot):
    return slot[3] == 8 * slot[0]


def orders(kind, source, target, source_offset, target_offset):
    """What s1 says, step by step: which byte is read or written."""
    def word(deed, slot, offset):
        return [(deed, offset + place) for place in range(slot[0])]

    if kind == "get":
        return word("read", source, source_offset)
    if kind in ("add", "exchange"):
        return word("read", source, source_offset) + word("write", source, source_offset)
    ahead = word("read", source, source_offset) if kind == "copy" else []
    between = [] if whole(target) else word("read", target, target_offset)
    return ahead + between + word("write", target, target_offset)


def value_in(data, offset, slot):
    return read_slot(list(data), offset, *slot)


def some(slot):
    """Integers that a slot holds: the edges and one between."""
    least, greatest = bounds(slot[3], slot[4])
    return (least, greatest, (least + greatest) // 2)


def pairs(kind):
    """(source, target) for a kind of work."""
    if kind == "set":
        return [(None, slot) for slot in SLOTS]
    if kind == "copy":
        return list(itertools.product(SLOTS, SLOTS))
    return [(slot, None) for slot in SLOTS]


def run(work, data, source_offset, target_offset):
    """All steps but what the last one tells: their answers are going; then that."""
    for _ in range(work.total() - 1):
        if work.step(data, source_offset, target_offset) != ("going",):
            raise AssertionError("a work that ends early")
    return work.step(data, source_offset, target_offset)


class Totals(unittest.TestCase):
    def test_each_kind(self):
        for size, (part, order) in itertools.product((1, 2, 4), itertools.product((False, True), repeat=2)):
            slot = (size, order, 0, 8 * size - part, False)
            for kind, source, target, expected in (
                ("get", slot, None, size), ("set", None, slot, 2 * size if part else size), ("add", slot, None, 2 * size),
                ("exchange", slot, None, 2 * size), ("copy", (1, False, 0, 8, True), slot, 1 + (2 * size if part else size)),
                ("copy", (4, True, 8, 3, False), slot, 4 + (2 * size if part else size)),
            ):
                with self.subTest(kind=kind, slot=slot):
                    self.assertEqual(Work(kind, source, target, None if kind in ("get", "copy") else 1).total(), expected)

    def test_a_slot_above_the_lowest_bit_is_a_part(self):
        self.assertEqual(Work("set", None, (2, False, 8, 8, False), 1).total(), 4)

    def test_the_same_at_each_moment(self):
        for kind in KINDS:
            for source, target in pairs(kind)[:40]:
                work = Work(kind, source, target, None if kind in ("get", "copy") else 0)
                told = [work.total()]
                data = [0] * 16
                for _ in range(told[0]):
                    work.step(data, 2, 9)
                    told.append(work.total())
                self.assertEqual(set(told), {told[0]})

    def test_the_same_behind_a_refusal(self):
        work = Work("add", (1, False, 0, 8, False), None, 1)
        with self.assertRaises(OutOfRange):
            work.step([255], 0, None)
        self.assertEqual(work.total(), 2)


class Orders(unittest.TestCase):
    def test_one_byte_a_step(self):
        for kind in KINDS:
            for source, target in pairs(kind):
                self.follow(kind, source, target)

    def follow(self, kind, source, target):
        data = Watched([0] * 24)
        work = Work(kind, source, target, None if kind in ("get", "copy") else 0)
        offsets = (None if source is None else 3, None if target is None else 13)
        expected = orders(kind, source, target, 3, 13)
        self.assertEqual(work.total(), len(expected))
        for number, deed in enumerate(expected):
            data.seen = []
            told = work.step(data, *offsets)
            self.assertEqual(data.seen, [deed], (kind, source, target, number))
            self.assertEqual(told[0], "done" if number + 1 == len(expected) else "going")
            self.assertEqual(len(told), 2 if number + 1 == len(expected) else 1)

    def test_offsets_are_those_of_each_step(self):
        slot = (2, False, 0, 16, False)
        data = [1, 2, 3, 4, 5, 6, 7, 8]
        work = Work("add", slot, None, 256)
        for offset in (0, 2, 4):
            self.assertEqual(work.step(data, offset, None), ("going",))
        self.assertEqual(data, [1, 2, 3, 4, 1, 6, 7, 8])
        self.assertEqual(work.step(data, 6, None), ("done", 1281))
        self.assertEqual(data, [1, 2, 3, 4, 1, 6, 7, 5])

    def test_bytes_that_somebody_else_changes(self):
        slot = (2, True, 4, 4, False)
        data = [0x12, 0x34]
        work = Work("set", None, slot, 15)
        work.step(data, None, 0)
        data[0] = 0x77
        work.step(data, None, 0)
        data[1] = 0x99
        work.step(data, None, 0)
        self.assertEqual(data, [0x12, 0x99])
        data[0] = 0x55
        self.assertEqual(work.step(data, None, 0), ("done", None))
        self.assertEqual(data, [0x55, 0xF4])

    def test_a_byte_is_read_at_its_turn(self):
        data = [1, 0, 0, 0]
        work = Work("get", (4, True, 0, 32, False), None, None)
        for place in range(4):
            data[place] = 9
            told = work.step(data, 0, None)
            data[place] = 200
        self.assertEqual(told, ("done", 0x09090909))

    def test_what_is_copied_was_read_ahead(self):
        slot = (2, False, 0, 16, False)
        data = [1, 2, 3, 4]
        work = Work("copy", slot, slot, None)
        work.step(data, 0, 2)
        work.step(data, 0, 2)
        data[0:2] = [50, 60]
        work.step(data, 0, 2)
        self.assertEqual(data, [50, 60, 1, 4])
        self.assertEqual(work.step(data, 0, 2), ("done", 513))
        self.assertEqual(data, [50, 60, 1, 2])


class Deeds(unittest.TestCase):
    def test_get(self):
        for slot in SLOTS:
            data = list(PATTERN)
            self.assertEqual(run(Work("get", slot, None, None), data, 5, None), ("done", value_in(PATTERN, 5, slot)))
            self.assertEqual(data, PATTERN)

    def test_set(self):
        for slot in SLOTS:
            for value in some(slot):
                data = list(PATTERN)
                self.assertEqual(run(Work("set", None, slot, value), data, None, 5), ("done", None))
                self.check(data, 5, slot, value)

    def test_exchange(self):
        for slot in SLOTS:
            for value in some(slot):
                data = list(PATTERN)
                told = run(Work("exchange", slot, None, value), data, 5, None)
                self.assertEqual(told, ("done", value_in(PATTERN, 5, slot)))
                self.check(data, 5, slot, value)

    def test_add(self):
        for slot in SLOTS:
            before = value_in(PATTERN, 5, slot)
            for value in some(slot):
                data = list(PATTERN)
                self.assertEqual(run(Work("add", slot, None, value - before), data, 5, None), ("done", value))
                self.check(data, 5, slot, value)

    def test_copy(self):
        for source, target in pairs("copy"):
            value = value_in(PATTERN, 3, source)
            least, greatest = bounds(target[3], target[4])
            data = list(PATTERN)
            work = Work("copy", source, target, None)
            if least <= value <= greatest:
                self.assertEqual(run(work, data, 3, 13), ("done", value))
                self.check(data, 13, target, value)
            else:
                for _ in range(source[0] - 1):
                    self.assertEqual(work.step(data, 3, 13), ("going",))
                with self.assertRaises(OutOfRange):
                    work.step(data, 3, 13)
                self.assertEqual(data, PATTERN)

    def test_copy_within_a_word(self):
        data = [0b10100101]
        told = run(Work("copy", (1, False, 0, 3, False), (1, False, 4, 4, False), None), data, 0, 0)
        self.assertEqual((told, data), (("done", 5), [0b01010101]))

    def check(self, data, offset, slot, value):
        """All bytes are as they were, but for the slot."""
        expected = list(PATTERN)
        write_slot(expected, offset, *slot, value)
        self.assertEqual(data, expected)

    def test_the_example_of_the_document(self):
        data = [0, 1, 2]
        work = Work("add", (2, True, 0, 16, False), None, 255)
        told = [work.step(data, 1, None), work.step(data, 1, None), work.step(data, 1, None)]
        self.assertEqual((told, data), ([("going",)] * 3, [0, 2, 2]))
        self.assertEqual((work.step(data, 1, None), data), (("done", 513), [0, 2, 1]))


class Ranges(unittest.TestCase):
    def refused(self, work, data, source_offset, target_offset, steps):
        """The step with this number raises OutOfRange, and nothing was written."""
        before = list(data)
        for _ in range(steps - 1):
            self.assertEqual(work.step(data, source_offset, target_offset), ("going",))
        with self.assertRaises(OutOfRange):
            work.step(data, source_offset, target_offset)
        work.finish(data, source_offset, target_offset)
        self.assertEqual(data, before)

    def test_sums(self):
        for slot in SLOTS:
            least, greatest = bounds(slot[3], slot[4])
            for start, added in ((greatest, 1), (least, -1), (least, 2 ** 32 - 1), (greatest, -(2 ** 32 - 1))):
                data = [255, 255, 0, 0, 0, 0, 255]
                write_slot(data, 2, *slot, start)
                if not least <= start + added <= greatest:
                    self.refused(Work("add", slot, None, added), data, 2, None, slot[0])

    def test_sums_at_the_edges(self):
        for slot in SLOTS:
            least, greatest = bounds(slot[3], slot[4])
            for start, end in ((least, greatest), (greatest, least), (greatest, greatest), (least, least)):
                data = [0] * 6
                write_slot(data, 1, *slot, start)
                self.assertEqual(run(Work("add", slot, None, end - start), data, 1, None), ("done", end))
                self.assertEqual(value_in(data, 1, slot), end)

    def test_copies(self):
        u8, i8, u16, i16 = ((size, False, 0, 8 * size, signed) for size, signed in itertools.product((1, 2), (False, True)))
        for source, target, value, fine in (
            (u16, u8, 255, True), (u16, u8, 256, False), (i16, u8, -1, False), (i16, u8, 0, True), (i16, i8, -128, True),
            (i16, i8, -129, False), (u8, i8, 127, True), (u8, i8, 128, False), (i8, u16, -1, False), (u16, i16, 32768, False),
        ):
            data = [0] * 8
            write_slot(data, 0, *source, value)
            if fine:
                self.assertEqual(run(Work("copy", source, target, None), data, 0, 4), ("done", value))
            else:
                self.refused(Work("copy", source, target, None), data, 0, 4, source[0])

    def test_copies_to_a_part_of_a_word(self):
        data = [8, 0xFF, 0xFF]
        self.refused(Work("copy", (1, False, 0, 8, False), (2, False, 3, 3, False), None), data, 0, 1, 1)
        data = [7, 0, 0]
        self.assertEqual(run(Work("copy", (1, False, 0, 8, False), (2, False, 3, 3, False), None), data, 0, 1), ("done", 7))
        self.assertEqual(data, [7, 56, 0])


class Finishing(unittest.TestCase):
    def test_behind_each_step(self):
        for kind in KINDS:
            for source, target in pairs(kind):
                total = Work(kind, source, target, 0).total()
                for steps in range(total + 1):
                    self.finish(kind, source, target, steps)

    def finish(self, kind, source, target, steps):
        slot = source if target is None else target
        # Zero can be copied to, added to and set in all slots.
        start = [0 if 3 <= place < 7 else byte for place, byte in enumerate(PATTERN)]
        done = list(start)
        work = Work(kind, source, target, {"add": 0, "set": 0, "exchange": 0}.get(kind))
        offsets = (None if source is None else 3, None if target is None else 13)
        run(work, done, *offsets)
        data = list(start)
        work = Work(kind, source, target, {"add": 0, "set": 0, "exchange": 0}.get(kind))
        for _ in range(steps):
            work.step(data, *offsets)
        written = 0 if kind == "get" else max(0, steps - (work.total() - slot[0]))
        work.finish(data, *offsets)
        self.assertEqual(data, done if written else start, (kind, source, target, steps))

    def test_only_what_is_left_is_written(self):
        work = Work("set", None, (4, False, 0, 32, False), 0x04030201)
        data = [9] * 6
        work.step(data, None, 1)
        work.step(data, None, 1)
        data[1] = 70
        work.finish(data, None, 1)
        self.assertEqual(data, [9, 70, 2, 3, 4, 9])

    def test_at_another_place(self):
        work = Work("exchange", (2, True, 0, 16, True), None, -2)
        data = [0, 5, 9, 9]
        for _ in range(3):
            work.step(data, 0, None)
        data = [1, 1, 255, 5]
        work.finish(data, 2, None)
        self.assertEqual(data, [1, 1, 255, 254])

    def test_behind_the_end(self):
        for kind, source, target in (
            ("set", None, SLOTS[5]), ("add", SLOTS[7], None), ("exchange", SLOTS[2], None), ("copy", SLOTS[0], SLOTS[12]),
            ("get", SLOTS[11], None),
        ):
            data = [0] * 12
            work = Work(kind, source, target, None if kind in ("get", "copy") else 1)
            run(work, data, 0, 6)
            data[:] = [77] * 12
            work.finish(data, 0, 6)
            self.assertEqual(data, [77] * 12)

    def test_twice(self):
        work = Work("set", None, (2, False, 0, 16, False), 513)
        data = [0, 0]
        work.step(data, None, 0)
        work.finish(data, None, 0)
        self.assertEqual(data, [1, 2])
        data[:] = [8, 8]
        work.finish(data, None, 0)
        self.assertEqual(data, [8, 8])


class Together(unittest.TestCase):
    """s3: two works whose steps are woven."""

    def woven(self, first, second, data):
        """All ways to weave two works, each on a copy of data: the pairs (order, data then)."""
        totals = Work(*first[0]).total(), Work(*second[0]).total()
        for places in itertools.combinations(range(sum(totals)), totals[0]):
            works = [(Work(*first[0]), first[1]), (Work(*second[0]), second[1])]
            changed = list(data)
            for place in range(sum(totals)):
                work, offsets = works[0 if place in places else 1]
                work.step(changed, *offsets)
            yield places, changed

    def test_words_apart(self):
        big, small = (2, True, 0, 16, False), (2, False, 4, 6, False)
        for first, second in (
            ((("add", big, None, 300), (0, None)), (("set", None, small, 63), (None, 2))),
            ((("exchange", small, None, 5), (0, None)), (("exchange", big, None, 777), (2, None))),
            ((("copy", (1, False, 0, 8, False), big, None), (4, 0)), (("add", small, None, 1), (2, None))),
        ):
            data = [1, 200, 33, 0, 250]
            alone = list(data)
            run(Work(*first[0]), alone, *first[1])
            run(Work(*second[0]), alone, *second[1])
            results = [changed for _, changed in self.woven(first, second, data)]
            self.assertGreater(len(results), 10)
            self.assertTrue(all(changed == alone for changed in results))

    def test_slots_of_one_word(self):
        low, high = (1, False, 0, 4, False), (1, False, 4, 4, False)
        results = dict(self.woven((("set", None, low, 1), (None, 0)), (("set", None, high, 2), (None, 0)), [0]))
        # The one that reads ahead of the other's write, and writes behind it, writes the other slot as it was.
        self.assertEqual(results, {
            (0, 1): [0x21], (2, 3): [0x21], (0, 2): [0x20], (0, 3): [0x01], (1, 2): [0x20], (1, 3): [0x01],
        })


if __name__ == "__main__":
    unittest.main()
