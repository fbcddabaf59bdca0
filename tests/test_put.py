"""r4, t3: set_value and select, what they change, and their refusals in order, by which nothing changes."""

import unittest

from recstore.blocks import empty
from recstore.errors import BadField, OutOfRange
from recstore.lists import push
from recstore.records import delete, new_record, select, set_value, upgrade, value, values
from recstore.schema import parse_schema

SHIP = parse_schema(
    "struct grain { sort: u8; weight: u32 big; } struct ore { a: u8; b: bits u8 { lo 3, hi 5 }; }"
    "struct pair { x: i16; y: u8; } struct link { to: ref ship; sel: one of grain, ore; }"
    "record port 1 { depth: u8 = 9; }"
    "record ship 1 { tonnes: u16 big = 258; temp: i8 = -2; hold: one of grain, ore; marks: bits u16 big { sail 1, crew 6 };"
    " row: 2 of pair; next: ref ship; home: ref port; ports: list of i16; cargo: list of link; }"
)
# Where the body of record 1 begins, and its fields in it.
BODY, TONNES, TEMP, HOLD, GRAIN, MARKS, ROW, NEXT, HOME = 8, 0, 2, 4, 8, 16, 18, 28, 32


class Case(unittest.TestCase):
    def setUp(self):
        self.data = empty(512)
        for name, number in (("ship", 1), ("ship", 2), ("port", 3)):
            new_record(SHIP, self.data, name, 1, number)

    def changes(self, call, *arguments):
        """What the bytes of the store become where they change, by their offsets."""
        before = list(self.data)
        self.assertIsNone(call(SHIP, self.data, *arguments))
        self.assertEqual(len(self.data), len(before))
        return {place: byte for place, byte in enumerate(self.data) if byte != before[place]}

    def refused(self, reason, call, *arguments):
        """Checks a refusal, the reason being that of a BadField or None for OutOfRange."""
        before = list(self.data)
        with self.subTest(reason=reason, arguments=arguments):
            with self.assertRaises(OutOfRange if reason is None else BadField) as caught:
                call(SHIP, self.data, *arguments)
            if reason is not None:
                self.assertEqual(caught.exception.reason, reason)
            self.assertEqual(self.data, before)


class Setting(Case):
    def test_bytes_that_change(self):
        for path, new, expected in (
            ("tonnes", 772, {TONNES: 3, TONNES + 1: 4}), ("tonnes", 65535, {TONNES: 255, TONNES + 1: 255}),
            ("temp", -128, {TEMP: 128}), ("temp", 127, {TEMP: 127}), ("temp", 127, {}),
            ("marks.crew", 33, {MARKS + 1: 66}), ("marks.sail", 1, {MARKS + 1: 67}), ("marks.crew", 0, {MARKS + 1: 1}),
            ("row.0.y", 5, {ROW + 2: 5}), ("row.1.x", -2, {ROW + 4: 254, ROW + 5: 255}),
            ("next", 2, {NEXT: 2}), ("home", 3, {HOME: 3}), ("next", 0, {NEXT: 0}),
        ):
            with self.subTest(path=path, new=new):
                self.assertEqual(self.changes(set_value, 1, path, new), {BODY + at: byte for at, byte in expected.items()})
                self.assertEqual(value(SHIP, self.data, 1, 1, path), new)

    def test_fields_of_alternatives(self):
        select(SHIP, self.data, 1, "hold", "grain")
        self.assertEqual(
            self.changes(set_value, 1, "hold.grain.weight", 258), {BODY + GRAIN + 6: 1, BODY + GRAIN + 7: 2},
        )
        select(SHIP, self.data, 1, "hold", "ore")
        self.assertEqual(self.changes(set_value, 1, "hold.ore.b.hi", 31), {BODY + GRAIN + 1: 248})
        self.assertEqual(self.changes(set_value, 1, "hold.ore.b.lo", 5), {BODY + GRAIN + 1: 253})

    def test_elements(self):
        for _ in range(3):
            push(SHIP, self.data, 1, "ports", None)
            push(SHIP, self.data, 1, "cargo", None)
        before = values(SHIP, self.data, 1, 1, "cargo")
        self.assertEqual(sorted(self.changes(set_value, 1, "ports.1", -300).values()), [212, 254])
        self.assertEqual(values(SHIP, self.data, 1, 1, "ports"), [("ports.0", 0), ("ports.1", -300), ("ports.2", 0)])
        self.assertEqual(list(self.changes(set_value, 1, "cargo.2.to", 1).values()), [1])
        select(SHIP, self.data, 1, "cargo.0.sel", "ore")
        self.assertEqual(list(self.changes(set_value, 1, "cargo.0.sel.ore.b.lo", 7).values()), [7])
        self.assertEqual(values(SHIP, self.data, 1, 1, "cargo.1"), before[2:4])

    def test_the_record_itself_can_be_referred_to(self):
        self.changes(set_value, 1, "next", 1)
        self.assertEqual(value(SHIP, self.data, 1, 1, "next"), 1)

    def test_fields_are_those_of_the_stored_version(self):
        schema = parse_schema("record r 1 { a: u8; } record r 2 { b was a: u16; }")
        data = empty(64)
        new_record(schema, data, "r", 1, 1)
        set_value(schema, data, 1, "a", 9)
        with self.assertRaises(BadField):
            set_value(schema, data, 1, "b", 9)
        with self.assertRaises(OutOfRange):
            set_value(schema, data, 1, "a", 256)
        upgrade(schema, data, 1, 2)
        set_value(schema, data, 1, "b", 256)
        with self.assertRaises(BadField):
            set_value(schema, data, 1, "a", 9)


class RefusalsOfSetting(Case):
    def test_no_such_field(self):
        for path in ("", "x", "tonnes.x", "hold.grain", "hold.x", "marks", "row", "row.0", "row.2.x", "ports", "cargo", "."):
            self.refused("no such field", set_value, 1, path, 0)
        push(SHIP, self.data, 1, "cargo", None)
        for path in ("cargo.0", "cargo.0.x", "cargo.00.to", "cargo.0.sel.grain", "ports.x", "ports.0.x"):
            self.refused("no such field", set_value, 1, path, 0)

    def test_no_such_element(self):
        for path in ("ports.0", "ports.60", "cargo.0.to", "cargo.1.sel.ore.a"):
            self.refused("no such element", set_value, 1, path, 0)
        push(SHIP, self.data, 1, "ports", 4)
        self.refused("no such element", set_value, 1, "ports.1", 0)

    def test_tag(self):
        self.refused("tag", set_value, 1, "hold", 1)
        push(SHIP, self.data, 1, "cargo", None)
        self.refused("tag", set_value, 1, "cargo.0.sel", 0)

    def test_not_active(self):
        self.refused("not active", set_value, 1, "hold.grain.sort", 0)
        select(SHIP, self.data, 1, "hold", "grain")
        self.refused("not active", set_value, 1, "hold.ore.b.lo", 0)
        push(SHIP, self.data, 1, "cargo", None)
        self.refused("not active", set_value, 1, "cargo.0.sel.grain.sort", 0)

    def test_out_of_range(self):
        select(SHIP, self.data, 1, "hold", "ore")
        push(SHIP, self.data, 1, "ports", 4)
        for path, least, greatest in (
            ("tonnes", 0, 65535), ("temp", -128, 127), ("marks.sail", 0, 1), ("marks.crew", 0, 63), ("row.1.x", -32768, 32767),
            ("hold.ore.b.hi", 0, 31), ("ports.0", -32768, 32767),
        ):
            for new in (least - 1, greatest + 1, least - 10 ** 9, 10 ** 12):
                self.refused(None, set_value, 1, path, new)
            for new in (least, greatest):
                self.changes(set_value, 1, path, new)
                self.assertEqual(value(SHIP, self.data, 1, 1, path), new)

    def test_out_of_range_of_references(self):
        for new in (-1, 2 ** 32, 2 ** 40):
            self.refused(None, set_value, 1, "next", new)

    def test_no_such_record(self):
        for new in (4, 3, 255, 2 ** 32 - 1):
            self.refused("no such record", set_value, 1, "next", new)
        for new in (1, 2, 4, 10000):
            self.refused("no such record", set_value, 1, "home", new)
        delete(SHIP, self.data, 2)
        self.refused("no such record", set_value, 1, "next", 2)
        push(SHIP, self.data, 1, "cargo", None)
        self.refused("no such record", set_value, 1, "cargo.0.to", 2)
        self.refused("no such record", set_value, 1, "cargo.0.to", 3)

    def test_orders(self):
        self.refused("no such field", set_value, 1, "cargo.0.x", 256)
        self.refused("no such element", set_value, 1, "cargo.0.sel", 256)
        self.refused("tag", set_value, 1, "hold", 256)
        self.refused("not active", set_value, 1, "hold.ore.b.lo", 256)
        # A tag that is not active is refused as a tag.
        schema = parse_schema("struct a { x: u8; } struct b { t: one of a; r: ref r; } record r 1 { o: one of b; }")
        data = empty(64)
        new_record(schema, data, "r", 1, 1)
        for path, new, reason in (("o.b.t", 0, "tag"), ("o.b.r", -1, "not active"), ("o.b.r", 7, "not active")):
            with self.assertRaises(BadField) as caught:
                set_value(schema, data, 1, path, new)
            self.assertEqual(caught.exception.reason, reason)


class Selecting(Case):
    def fill(self, alternative):
        """Selects an alternative and fills its fields."""
        select(SHIP, self.data, 1, "hold", alternative)
        for path, _ in values(SHIP, self.data, 1, 1, "hold." + alternative):
            set_value(SHIP, self.data, 1, path, 5)

    def hold(self):
        return self.data[BODY + HOLD:BODY + MARKS]

    def test_all_bytes(self):
        self.fill("grain")
        self.assertEqual(self.hold(), [1, 0, 0, 0, 5, 0, 0, 0, 0, 0, 0, 5])
        rest = self.data[:BODY + HOLD] + self.data[BODY + MARKS:]
        for name, number in (("ore", 2), ("grain", 1), (None, 0)):
            self.fill("grain")
            self.assertIsNone(select(SHIP, self.data, 1, "hold", name))
            self.assertEqual(self.hold(), [number] + [0] * 11)
            self.fill("ore")
            self.assertEqual(self.hold(), [2, 0, 0, 0, 5, 45] + [0] * 6)
            select(SHIP, self.data, 1, "hold", name)
            self.assertEqual(self.hold(), [number] + [0] * 11)
        self.assertEqual(self.data[:BODY + HOLD] + self.data[BODY + MARKS:], rest)

    def test_the_same_one_again(self):
        self.fill("ore")
        select(SHIP, self.data, 1, "hold", "ore")
        self.assertEqual(
            values(SHIP, self.data, 1, 1, "hold"),
            [("hold", 2), ("hold.ore.a", 0), ("hold.ore.b.lo", 0), ("hold.ore.b.hi", 0)],
        )

    def test_none_where_none_is(self):
        before = list(self.data)
        select(SHIP, self.data, 1, "hold", None)
        self.assertEqual(self.data, before)

    def test_nothing_else_changes(self):
        for path in ("tonnes", "marks.crew", "row.0.x", "row.1.y"):
            set_value(SHIP, self.data, 1, path, 3)
        set_value(SHIP, self.data, 1, "temp", -1)
        select(SHIP, self.data, 2, "hold", "ore")
        set_value(SHIP, self.data, 2, "hold.ore.a", 255)
        before = list(self.data)
        select(SHIP, self.data, 1, "hold", "grain")
        before[BODY + HOLD] = 1
        self.assertEqual(self.data, before)

    def test_bytes_ahead_and_behind_stay(self):
        schema = parse_schema(
            "struct a { x: u8; } struct b { y: u8; z: u16; } record r 1 { p: u8 = 255; o: one of a, b; q: u8 = 255; }"
        )
        data = empty(64)
        new_record(schema, data, "r", 1, 1)
        select(schema, data, 1, "o", "b")
        set_value(schema, data, 1, "o.b.z", 65535)
        self.assertEqual(data[8:24], [255, 0, 2, 0, 0, 0, 255, 255, 255, 0, 0, 0, 0, 0, 0, 0])
        select(schema, data, 1, "o", "a")
        self.assertEqual(data[8:24], [255, 0, 1, 0, 0, 0, 0, 0, 255, 0, 0, 0, 0, 0, 0, 0])

    def test_tags_within(self):
        schema = parse_schema(
            "struct a { x: u8; } struct b { y: u16; t: one of a; z: u8; } record r 1 { o: one of a, b; p: u8 = 255; }"
        )
        data = empty(64)
        new_record(schema, data, "r", 1, 1)
        new = list(data)
        select(schema, data, 1, "o", "b")
        select(schema, data, 1, "o.b.t", "a")
        set_value(schema, data, 1, "o.b.t.a.x", 7)
        set_value(schema, data, 1, "o.b.z", 8)
        self.assertEqual(values(schema, data, 1, 1, "o"), [("o", 2), ("o.b.y", 0), ("o.b.t", 1), ("o.b.t.a.x", 7), ("o.b.z", 8)])
        select(schema, data, 1, "o.b.t", None)
        self.assertEqual(values(schema, data, 1, 1, "o"), [("o", 2), ("o.b.y", 0), ("o.b.t", 0), ("o.b.z", 8)])
        select(schema, data, 1, "o.b.t", "a")
        set_value(schema, data, 1, "o.b.t.a.x", 7)
        select(schema, data, 1, "o", None)
        self.assertEqual(data, new)

    def test_elements(self):
        for _ in range(3):
            push(SHIP, self.data, 1, "cargo", None)
        for item in range(3):
            select(SHIP, self.data, 1, f"cargo.{item}.sel", "grain")
            set_value(SHIP, self.data, 1, f"cargo.{item}.sel.grain.sort", item + 1)
            set_value(SHIP, self.data, 1, f"cargo.{item}.to", 2)
        select(SHIP, self.data, 1, "cargo.1.sel", "ore")
        self.assertEqual(values(SHIP, self.data, 1, 1, "cargo"), [
            ("cargo.0.to", 2), ("cargo.0.sel", 1), ("cargo.0.sel.grain.sort", 1), ("cargo.0.sel.grain.weight", 0),
            ("cargo.1.to", 2), ("cargo.1.sel", 2), ("cargo.1.sel.ore.a", 0), ("cargo.1.sel.ore.b.lo", 0),
            ("cargo.1.sel.ore.b.hi", 0), ("cargo.2.to", 2), ("cargo.2.sel", 1), ("cargo.2.sel.grain.sort", 3),
            ("cargo.2.sel.grain.weight", 0),
        ])


class RefusalsOfSelecting(Case):
    def test_no_such_field(self):
        for path in ("", "x", "hold.x", "hold.grain", "marks", "row", "ports", "cargo", "cargo.0", "cargo.x.sel", "hold."):
            for name in ("grain", "x", None):
                self.refused("no such field", select, 1, path, name)

    def test_no_such_element(self):
        for path in ("cargo.0.sel", "cargo.60.to", "ports.0"):
            self.refused("no such element", select, 1, path, "grain")
        push(SHIP, self.data, 1, "cargo", None)
        self.refused("no such element", select, 1, "cargo.1.sel", None)

    def test_not_a_union(self):
        push(SHIP, self.data, 1, "cargo", None)
        push(SHIP, self.data, 1, "ports", None)
        for path in ("tonnes", "marks.sail", "row.0.x", "next", "home", "cargo.0.to", "ports.0"):
            for name in ("grain", None):
                self.refused("not a union", select, 1, path, name)

    def test_not_active(self):
        schema = parse_schema("struct a { x: u8; } struct b { t: one of a; } record r 1 { o: one of b; }")
        data = empty(64)
        new_record(schema, data, "r", 1, 1)
        for path, name, reason in (("o.b.t", "a", "not active"), ("o.b.t", "x", "not active"), ("o.b.t.a.x", "a", "not a union")):
            before = list(data)
            with self.assertRaises(BadField) as caught:
                select(schema, data, 1, path, name)
            self.assertEqual((caught.exception.reason, data), (reason, before))

    def test_no_such_alternative(self):
        push(SHIP, self.data, 1, "cargo", None)
        for name in ("", "pair", "Grain", "grain ", "0", "1", "hold", "graino"):
            self.refused("no such alternative", select, 1, "hold", name)
            self.refused("no such alternative", select, 1, "cargo.0.sel", name)

    def test_orders(self):
        self.refused("no such field", select, 1, "cargo.0.x", "x")
        self.refused("no such element", select, 1, "cargo.0.to", "x")
        self.refused("not a union", select, 1, "hold.grain.sort", "x")


if __name__ == "__main__":
    unittest.main()
