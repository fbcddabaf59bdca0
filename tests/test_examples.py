"""The examples of the document."""

import unittest

from recstore.blocks import blocks, empty, give_back, take
from recstore.errors import BadSchema
from recstore.integers import read_slot, write_slot
from recstore.layouts import layout
from recstore.schema import parse_schema
from recstore.steps import Work
from recstore.store import Store
from recstore.table import Table


class Examples(unittest.TestCase):
    def test_at_the_beginning(self):
        for owner in (Store, Table):
            store = owner("record ship 1 { tonnes: u16 = 100; marks: bits u8 { sail 1, crew 6 }; ports: list of u8; }", 64)
            self.assertEqual((store.create("ship", 1), store.push(1, "ports", 7), store.put(1, "marks.crew", 33)), (1, 1, None))
            self.assertEqual(store.values(1, 1, ""), [("tonnes", 100), ("marks.sail", 0), ("marks.crew", 33)])
            self.assertEqual(store.values(1, 1, "ports"), [("ports.0", 7)])
            if owner is Store:
                self.assertEqual(store.bytes_of(1), [100, 0, 66, 0, 1, 0, 3, 0])
            self.assertEqual(
                (store.device(), store.lease(1, 1, "tonnes", True), store.begin(1, "add", 1, "tonnes", 200, None, None)), (1, 1, None),
            )
            self.assertEqual([store.step(1) for _ in range(4)], [("going",), ("going",), ("going",), ("done", 300)])
            self.assertEqual((store.release(1), store.value(1, 1, "tonnes")), (None, 300))

    def test_store(self):
        text = "struct grain { sort: u8; weight: u32 big; } record ship 1 { tonnes: u16 = 100; hold: one of grain; }"
        for owner in (Store, Table):
            store = owner(text, 128)
            self.assertEqual(
                (store.create("ship", 1), store.select(1, "hold", "grain"), store.put(1, "hold.grain.weight", 258)), (1, None, None),
            )
            self.assertEqual((store.device(), store.lease(1, 1, "hold.grain", True)), (1, 1))
            self.assertIsNone(store.begin(1, "add", 1, "hold.grain.weight", 1000, None, None))
            self.assertEqual([store.step(1)[0] for turn in range(8)], ["going"] * 7 + ["done"])
            self.assertEqual(
                (store.release(1), store.value(1, 1, "hold.grain.weight"), store.value(1, 1, "tonnes"), store.used()), (None, 1258, 100, 24),
            )

    def test_integers(self):
        data = [0, 0, 0, 0]
        write_slot(data, 1, 2, True, 0, 16, False, 258)
        write_slot(data, 3, 1, False, 2, 3, True, -2)
        self.assertEqual(
            (data, read_slot(data, 3, 1, False, 2, 3, True), read_slot(data, 1, 2, False, 0, 16, False)), ([0, 1, 2, 24], -2, 513),
        )

    def test_schema(self):
        self.assertEqual(parse_schema("record r 1 { a: u16 big = 7; b: bits u8 { x 1, y 3 }; }"), ((
            "record", "r", 1,
            (("a", None, ("word", 2, False, True), 7), ("b", None, ("bits", 1, False, (("x", 1), ("y", 3))), None)),
        ),))
        with self.assertRaises(BadSchema):
            parse_schema("record r 1 { a u8; }")

    def test_layouts(self):
        self.assertEqual(
            layout(parse_schema("struct s { w: u16; } record r 1 { a: u8; h: one of s; }"), "r", 1),
            (6, 2, (
                ("a", 0, 1, False, 0, 8, False, "number", ()), ("h", 2, 1, False, 0, 8, False, "tag", ()),
                ("h.s.w", 4, 2, False, 0, 16, False, "number", (("h", 1),)),
            ), ()),
        )

    def test_blocks(self):
        data = empty(64)
        self.assertEqual((take(data, 2, 1, 1, 1), take(data, 3, 1, 1, 2), give_back(data, 0), take(data, 1, 1, 1, 3)), (0, 16, None, 0))
        self.assertEqual(blocks(data), [(0, 8, 3, 1), (8, 8, 0, 0), (16, 24, 2, 1), (40, 24, 0, 0)])

    def test_steps(self):
        data = [0, 1, 2]
        work = Work("add", (2, True, 0, 16, False), None, 255)
        told = [work.step(data, 1, None), work.step(data, 1, None), work.step(data, 1, None), data, work.step(data, 1, None), data]
        self.assertEqual(told, [("going",), ("going",), ("going",), [0, 2, 1], ("done", 513), [0, 2, 1]])


if __name__ == "__main__":
    unittest.main()
