"""d2, d3, b4: the words of devices, wherever they are at each step."""

import unittest

from recstore.blocks import blocks, empty, give_back, grow, push_together
from recstore.devices import Device, place
from recstore.errors import OutOfRange
from recstore.leases import covered
from recstore.lists import fix_headers, pop, push
from recstore.records import delete, new_record, record_at, set_value, value
from recstore.schema import parse_schema
from recstore.steps import Work

SCHEMA = parse_schema(
    "struct s { x: u8; y: u32 big; } record r 1 { a: u16; b: u8; w: u32; l: list of u16; m: list of s; n: bits u16 big { lo 4, hi 12 }; }"
    "record pad 1 { a: u32; } record wide 1 { a: 6 of u32; b: 6 of u32; }"
)
WHOLE = {1: (1, False, 0, 8, False), 2: (2, False, 0, 16, False), 4: (4, False, 0, 32, False)}


def made():
    """The records 1 and 3 are ahead of 2 and of 4, so that these move if they are deleted."""
    data = empty(256)
    for number, name in ((1, "pad"), (3, "pad"), (2, "r"), (4, "r")):
        new_record(SCHEMA, data, name, 1, number)
    for item in (513, 1027):
        push(SCHEMA, data, 2, "l", item)
    for _ in range(2):
        push(SCHEMA, data, 2, "m", None)
    set_value(SCHEMA, data, 2, "m.1.y", 0x01020304)
    return data


class Place(unittest.TestCase):
    def test_words_of_the_record_itself(self):
        data = made()
        for number in (1, 2, 3, 4):
            start = record_at(SCHEMA, data, number)[2]
            for offset in (0, 2, 4):
                self.assertEqual(place(SCHEMA, data, number, "", offset), start + offset)

    def test_words_of_lists(self):
        data = made()
        starts = {block[2:]: block[0] + 8 for block in blocks(data)}
        self.assertEqual(place(SCHEMA, data, 2, "l", 0), starts[2, 128])
        self.assertEqual(place(SCHEMA, data, 2, "m", 12), starts[2, 129] + 12)
        at = place(SCHEMA, data, 2, "m", 12)
        self.assertEqual(data[at:at + 4], [1, 2, 3, 4])

    def test_of_all_that_is_covered(self):
        data = made()
        values = {"a": 0x1122, "b": 0x33, "w": 0x44556677, "l.0": 0x8899, "l.1": 0xAABB, "m.0.x": 0xCC, "m.0.y": 0x12345678}
        for path, number in values.items():
            set_value(SCHEMA, data, 2, path, number)
        for path, number in values.items():
            name, offset, size, _ = covered(SCHEMA, data, 2, path, True)[-1]
            at = place(SCHEMA, data, 2, name, offset)
            order = "big" if path == "m.0.y" else "little"
            self.assertEqual(int.from_bytes(bytes(data[at:at + size]), order), number, path)

    def test_of_headers(self):
        data = made()
        for path, many in (("l", 2), ("m", 2)):
            name, offset, size, _ = covered(SCHEMA, data, 2, path, True)[0]
            at = place(SCHEMA, data, 2, name, offset)
            self.assertEqual((name, size, data[at:at + 2]), ("", 4, [many, 0]))

    def test_behind_blocks_that_moved(self):
        data = made()
        delete(SCHEMA, data, 1)
        delete(SCHEMA, data, 3)
        before = place(SCHEMA, data, 2, "", 4), place(SCHEMA, data, 2, "m", 12)
        push_together(data)
        fix_headers(SCHEMA, data)
        self.assertEqual(place(SCHEMA, data, 2, "", 4), before[0] - 32)
        self.assertEqual(place(SCHEMA, data, 2, "m", 12), before[1] - 32)
        self.assertEqual(record_at(SCHEMA, data, 2)[2] + 4, before[0] - 32)


class Steps(unittest.TestCase):
    def setUp(self):
        self.data = made()

    def step(self, device):
        return device.step(SCHEMA, self.data)

    def test_each_kind(self):
        for number, kind, source, target, given, told, path, then in (
            (2, "get", (2, "l", 2), None, None, 1027, "l.1", 1027), (2, "set", None, (2, "l", 2), 9, None, "l.1", 9),
            (2, "add", (2, "l", 0), None, 1, 514, "l.0", 514), (2, "exchange", (2, "l", 0), None, 7, 514, "l.0", 7),
            (4, "copy", (2, "l", 2), (4, "", 0), None, 9, "a", 9),
        ):
            slots = [None if word is None else WHOLE[2] for word in (source, target)]
            work = Work(kind, slots[0], slots[1], given)
            device = Device(work, source, target)
            answers = [self.step(device) for _ in range(work.total())]
            self.assertEqual(answers, [("going",)] * (work.total() - 1) + [("done", told)])
            self.assertEqual(value(SCHEMA, self.data, number, 1, path), then)

    def test_a_part_of_a_word(self):
        name, offset, size, _ = covered(SCHEMA, self.data, 2, "n", True)[-1]
        set_value(SCHEMA, self.data, 2, "n.lo", 5)
        device = Device(Work("set", None, (size, True, 4, 12, False), 4000), None, (2, name, offset))
        self.assertEqual([self.step(device) for _ in range(4)], [("going",)] * 3 + [("done", None)])
        self.assertEqual(
            (value(SCHEMA, self.data, 2, 1, "n.lo"), value(SCHEMA, self.data, 2, 1, "n.hi")), (5, 4000),
        )

    def test_blocks_that_move_between_the_steps(self):
        # Ahead of each step something moves the record, its list, or both.
        device = Device(Work("add", (4, True, 0, 32, False), None, 0x0A0A0A0A), (2, "m", 12), None)
        for change in (self.drop_pads, self.create_and_delete, self.lengthen, self.take_and_grow, self.give_and_push_together):
            change()
            self.assertEqual(self.step(device), ("going",))
        # The first byte is written already: all others see that of 0x0B020304.
        self.assertEqual(value(SCHEMA, self.data, 2, 1, "m.1.y"), 0x0B020304)
        self.drop_pads()
        self.assertEqual([self.step(device) for _ in range(3)], [("going",), ("going",), ("done", 0x0B0C0D0E)])
        self.assertEqual(value(SCHEMA, self.data, 2, 1, "m.1.y"), 0x0B0C0D0E)
        self.assertEqual(value(SCHEMA, self.data, 2, 1, "m.0.y"), 0)
        self.assertEqual(value(SCHEMA, self.data, 2, 1, "l.0"), 513)

    def places(self):
        return [place(SCHEMA, self.data, 2, name, 0) for name in ("", "m")]

    def drop_pads(self):
        for number in (1, 3, 9):
            if record_at(SCHEMA, self.data, number) is not None:
                delete(SCHEMA, self.data, number)
        push_together(self.data)
        fix_headers(SCHEMA, self.data)

    def create_and_delete(self):
        new_record(SCHEMA, self.data, "pad", 1, 9)
        delete(SCHEMA, self.data, 4)

    def lengthen(self):
        before = self.places()
        for item in range(10):
            push(SCHEMA, self.data, 2, "l", item)
        push(SCHEMA, self.data, 2, "m", None)
        self.assertNotEqual(self.places(), before)

    def take_and_grow(self):
        grow(self.data, 512)
        new_record(SCHEMA, self.data, "wide", 1, 10)
        for _ in range(5):
            push(SCHEMA, self.data, 2, "m", None)

    def give_and_push_together(self):
        before = self.places()
        delete(SCHEMA, self.data, 9)
        for _ in range(12):
            pop(SCHEMA, self.data, 2, "l")
        for item in (513, 1027):
            push(SCHEMA, self.data, 2, "l", item)
        push_together(self.data)
        fix_headers(SCHEMA, self.data)
        self.assertNotEqual(self.places(), before)

    def test_two_words_that_move(self):
        device = Device(Work("copy", WHOLE[4], WHOLE[4], None), (2, "", 4), (4, "", 4))
        set_value(SCHEMA, self.data, 2, "w", 0x11223344)
        answers = []
        for number in range(8):
            if number == 2:
                delete(SCHEMA, self.data, 1)
                push_together(self.data)
            if number == 6:
                delete(SCHEMA, self.data, 3)
                push_together(self.data)
            fix_headers(SCHEMA, self.data)
            answers.append(self.step(device))
        self.assertEqual(answers, [("going",)] * 7 + [("done", 0x11223344)])
        self.assertEqual([value(SCHEMA, self.data, number, 1, "w") for number in (2, 4)], [0x11223344] * 2)

    def test_out_of_range(self):
        set_value(SCHEMA, self.data, 2, "b", 200)
        device = Device(Work("add", WHOLE[1], None, 56), (2, "", 2), None)
        before = list(self.data)
        with self.assertRaises(OutOfRange):
            self.step(device)
        device.finish(SCHEMA, self.data)
        self.assertEqual(self.data, before)

    def test_one_byte_a_step(self):
        device = Device(Work("set", None, WHOLE[4], 0x01010101), None, (2, "m", 12))
        at = place(SCHEMA, self.data, 2, "m", 12)
        for number in range(4):
            before = list(self.data)
            self.step(device)
            before[at + number] = 1
            self.assertEqual(self.data, before)


class Finishing(unittest.TestCase):
    def test_behind_blocks_that_moved(self):
        for steps, expected in ((0, 0), (3, 0), (4, 0), (5, 5), (6, 5), (7, 5), (8, 5)):
            data = made()
            device = Device(Work("exchange", WHOLE[4], None, 5), (2, "", 4), None)
            for _ in range(steps):
                device.step(SCHEMA, data)
            give_back(data, 0)
            push_together(data)
            fix_headers(SCHEMA, data)
            device.finish(SCHEMA, data)
            self.assertEqual(value(SCHEMA, data, 2, 1, "w"), expected, steps)

    def test_in_lists(self):
        for steps, expected in ((3, 0x01020304), (4, 0x01020304), (5, 0xFFFFFFFE), (7, 0xFFFFFFFE)):
            data = made()
            device = Device(Work("set", None, (4, True, 1, 31, False), 0x7FFFFFFF), None, (2, "m", 12))
            for _ in range(steps):
                device.step(SCHEMA, data)
            delete(SCHEMA, data, 3)
            push_together(data)
            fix_headers(SCHEMA, data)
            device.finish(SCHEMA, data)
            self.assertEqual(value(SCHEMA, data, 2, 1, "m.1.y"), expected, steps)


if __name__ == "__main__":
    unittest.main()
