"""t1, t2: each call of a store and of a table: what it does and what it tells; and the questions."""

import unittest

from both import Both
from recstore.blocks import blocks
from recstore.errors import BadArgument, BadSchema
from recstore.store import Store
from recstore.table import Table

TEXT = """
struct s { x: u8; y: i16 big; }
struct v { k: u8 ; o: one of s; }
record ship 1 { a: u16 = 100; marks: bits u8 { sail 1, crew 6 }; h: one of s, v; l: list of u8; m: list of v; next: ref ship; }
record ship 2 { b was a: u32; h: one of s, v; n was l: list of u16; next: ref ship; c: i8 = -5; }
record port 1 { d: u8; }
"""
CALLS = {
    "create": ("name", "version"), "put": ("number", "path", "value"), "select": ("number", "path", "name"),
    "push": ("number", "name", "value"), "pop": ("number", "name"), "delete": ("number",), "upgrade": ("number", "version"),
    "grow": ("size",), "push_together": (), "checkpoint": (), "back": (), "commit": (), "device": (),
    "lease": ("device", "number", "path", "exclusive"), "release": ("lease",),
    "begin": ("device", "kind", "number", "path", "value", "other", "other_path"), "step": ("device",), "abort": ("device",),
}
QUESTIONS = {
    "value": ("number", "version", "path"), "values": ("number", "version", "path"), "length": ("number", "version", "name"),
    "kind": ("number",), "numbers": (), "next_number": (), "size": (), "used": (), "busy": ("device",), "held": (),
}
OF_STORES = {"words": ("lease",), "blocks": (), "image": (), "bytes_of": ("number",), "journal": ()}


class Interface(unittest.TestCase):
    def test_methods_are_defined_in_the_classes(self):
        for owner, methods in ((Store, {**CALLS, **QUESTIONS, **OF_STORES}), (Table, {**CALLS, **QUESTIONS})):
            for name, arguments in methods.items():
                code = vars(owner)[name].__code__
                self.assertEqual(code.co_varnames[:code.co_argcount], ("self",) + arguments, name)

    def test_what_a_table_has_none_of(self):
        for name in OF_STORES:
            self.assertFalse(hasattr(Table, name), name)


class Making(unittest.TestCase):
    def test_sizes(self):
        for owner in (Store, Table):
            for size in (64, 72, 520, 1024):
                self.assertEqual((owner(TEXT, size).size(), owner("", size).used()), (size, 0))
            for size in (0, -64, 8, 56, 63, 65, 68, 100, 1023, 1025, 1032, 4096):
                with self.assertRaises(BadArgument) as caught:
                    owner(TEXT, size)
                self.assertEqual(caught.exception.reason, "size")

    def test_schemas_ahead_of_sizes(self):
        for owner in (Store, Table):
            for size in (64, 65):
                with self.assertRaises(BadSchema) as caught:
                    owner("record r 1 { a u8; }", size)
                self.assertEqual((caught.exception.token, caught.exception.reason), (6, "unexpected token"))
                with self.assertRaises(BadSchema):
                    owner("record r 2 { a: u8; }", size)

    def test_a_new_one(self):
        both = Both(TEXT, 64)
        self.assertEqual([both.told(name) for name in ("numbers", "next_number", "size", "used", "held")], [[], 1, 64, 0, []])
        self.assertEqual(both.store.blocks(), [(0, 64, 0, 0)])


class Records(unittest.TestCase):
    def setUp(self):
        self.both = Both(TEXT, 512, slow=True)
        self.do, self.told = self.both.do, self.both.told

    def test_create(self):
        self.assertEqual([self.do("create", "ship", 1), self.do("create", "port", 1), self.do("create", "ship", 2)], [1, 2, 3])
        self.assertEqual(self.told("numbers"), [1, 2, 3])
        self.assertEqual([self.told("kind", number) for number in (1, 2, 3)], [("ship", 1), ("port", 1), ("ship", 2)])
        self.assertEqual(self.told("next_number"), 4)
        self.assertEqual(self.told("values", 1, 1, ""), [("a", 100), ("marks.sail", 0), ("marks.crew", 0), ("h", 0), ("next", 0)])
        self.assertEqual(self.told("values", 3, 2, ""), [("b", 0), ("h", 0), ("next", 0), ("c", -5)])

    def test_put(self):
        self.do("create", "ship", 1)
        for path, value in (("a", 65535), ("marks.crew", 33), ("marks.sail", 1), ("next", 1)):
            self.assertIsNone(self.do("put", 1, path, value))
        self.assertEqual(
            self.told("values", 1, 1, ""), [("a", 65535), ("marks.sail", 1), ("marks.crew", 33), ("h", 0), ("next", 1)],
        )
        self.assertEqual((self.told("value", 1, 2, "b"), self.told("value", 1, 2, "c")), (65535, -5))

    def test_select(self):
        self.do("create", "ship", 1)
        self.assertIsNone(self.do("select", 1, "h", "s"))
        self.do("put", 1, "h.s.y", -300)
        self.assertEqual(self.told("values", 1, 1, "h"), [("h", 1), ("h.s.x", 0), ("h.s.y", -300)])
        self.do("select", 1, "h", "s")
        self.assertEqual(self.told("values", 1, 1, "h"), [("h", 1), ("h.s.x", 0), ("h.s.y", 0)])
        self.do("select", 1, "h", "v")
        self.do("select", 1, "h.v.o", "s")
        self.do("put", 1, "h.v.o.s.y", 300)
        self.assertEqual(
            self.told("values", 1, 2, "h"), [("h", 2), ("h.v.k", 0), ("h.v.o", 1), ("h.v.o.s.x", 0), ("h.v.o.s.y", 300)],
        )
        self.assertIsNone(self.do("select", 1, "h", None))
        self.assertEqual(self.told("values", 1, 1, "h"), [("h", 0)])
        # The alternatives within were emptied, too.
        self.do("select", 1, "h", "v")
        self.assertEqual(self.told("values", 1, 1, "h.v"), [("h.v.k", 0), ("h.v.o", 0)])

    def test_select_in_elements(self):
        self.do("create", "ship", 1)
        for _ in range(2):
            self.do("push", 1, "m", None)
        self.do("select", 1, "m.1.o", "s")
        self.do("put", 1, "m.1.o.s.x", 8)
        self.assertEqual(
            self.told("values", 1, 1, "m"),
            [("m.0.k", 0), ("m.0.o", 0), ("m.1.k", 0), ("m.1.o", 1), ("m.1.o.s.x", 8), ("m.1.o.s.y", 0)],
        )
        self.do("select", 1, "m.1.o", None)
        self.assertEqual(self.told("values", 1, 1, "m.1"), [("m.1.k", 0), ("m.1.o", 0)])

    def test_push_and_pop(self):
        self.do("create", "ship", 1)
        self.assertEqual([self.do("push", 1, "l", value) for value in (7, None, 255)], [1, 2, 3])
        self.assertEqual(self.told("values", 1, 1, "l"), [("l.0", 7), ("l.1", 0), ("l.2", 255)])
        self.assertEqual(self.told("values", 1, 2, "n"), [("n.0", 7), ("n.1", 0), ("n.2", 255)])
        self.assertEqual([self.do("pop", 1, "l") for _ in range(3)], [2, 1, 0])
        self.assertEqual((self.told("values", 1, 1, "l"), self.told("length", 1, 1, "l")), ([], 0))
        self.assertEqual(self.do("push", 1, "m", None), 1)
        self.assertEqual((self.told("length", 1, 1, "m"), self.told("length", 1, 2, "n")), (1, 0))

    def test_sixty_elements(self):
        self.do("create", "ship", 2)
        self.assertEqual([self.do("push", 1, "n", number) for number in range(60)], list(range(1, 61)))
        self.assertEqual(self.both.refused("push", 1, "n", 1), "long")
        self.assertEqual(self.told("value", 1, 2, "n.59"), 59)
        self.assertEqual(self.do("pop", 1, "n"), 59)
        self.assertEqual(self.do("push", 1, "n", 7), 60)

    def test_delete(self):
        for _ in range(3):
            self.do("create", "ship", 1)
        self.do("put", 1, "next", 2)
        self.do("put", 3, "next", 1)
        self.assertIsNone(self.do("delete", 2))
        self.assertEqual((self.told("numbers"), self.told("next_number")), ([1, 3], 4))
        self.assertEqual((self.told("value", 1, 1, "next"), self.told("value", 3, 1, "next")), (0, 1))
        self.assertEqual(self.do("create", "port", 1), 4)

    def test_upgrade(self):
        self.do("create", "ship", 1)
        self.do("create", "ship", 1)
        self.do("put", 1, "next", 2)
        self.do("select", 1, "h", "v")
        self.do("put", 1, "h.v.k", 9)
        self.do("push", 1, "l", 200)
        self.do("push", 1, "m", None)
        before = self.told("values", 1, 2, ""), self.told("values", 1, 2, "n")
        self.assertIsNone(self.do("upgrade", 1, 2))
        self.assertEqual(self.told("kind", 1), ("ship", 2))
        self.assertEqual((self.told("values", 1, 2, ""), self.told("values", 1, 2, "n")), before)
        self.assertEqual(self.told("values", 1, 2, "n"), [("n.0", 200)])

    def test_an_upgrade_stores_a_reference_to_nothing_as_0(self):
        for _ in range(2):
            self.do("create", "ship", 1)
        self.do("put", 1, "next", 2)
        self.do("checkpoint")
        self.do("delete", 2)
        self.do("upgrade", 1, 2)
        self.assertEqual(self.told("value", 1, 2, "next"), 0)
        self.do("back")
        self.assertEqual(self.told("value", 1, 2, "next"), 2)

    def test_grow(self):
        self.do("create", "ship", 1)
        self.assertIsNone(self.do("grow", 520))
        self.assertEqual((self.told("size"), self.told("used")), (520, 40))
        self.assertEqual(self.both.store.blocks(), [(0, 40, 1, 1), (40, 480, 0, 0)])
        self.do("grow", 1024)
        self.assertEqual(self.both.store.blocks(), [(0, 40, 1, 1), (40, 984, 0, 0)])

    def test_push_together(self):
        for _ in range(3):
            self.do("create", "port", 1)
        self.do("create", "ship", 1)
        self.do("push", 4, "l", 9)
        self.do("delete", 2)
        self.do("delete", 3)
        before = self.told("values", 4, 1, ""), self.told("values", 4, 1, "l")
        self.assertIsNone(self.do("push_together"))
        self.assertEqual(self.both.store.blocks(), [(0, 16, 1, 1), (16, 40, 4, 1), (56, 16, 4, 128), (72, 440, 0, 0)])
        self.assertEqual((self.told("values", 4, 1, ""), self.told("values", 4, 1, "l")), before)

    def test_questions_of_stores(self):
        store = self.both.store
        self.do("create", "port", 1)
        self.do("create", "ship", 1)
        self.do("push", 2, "l", 9)
        self.assertEqual(store.blocks(), blocks(store.records.data))
        self.assertEqual(store.bytes_of(1), [0])
        self.assertEqual(store.bytes_of(2), [100, 0] + [0] * 12 + [1, 0, 8, 0] + [0] * 10)
        self.assertEqual(self.told("used"), 16 + 40 + 16)
        for number in (0, 3, 99):
            with self.assertRaises(BadArgument) as caught:
                store.bytes_of(number)
            self.assertEqual(caught.exception.reason, "record")

    def test_what_is_told_is_new_each_time(self):
        self.do("create", "ship", 1)
        self.do("device")
        self.do("lease", 1, 1, "a", False)
        for each in (self.both.store, self.both.table):
            for name, arguments in (("values", (1, 1, "")), ("numbers", ()), ("held", ())):
                told = getattr(each, name)(*arguments)
                told.append(77)
                self.assertNotEqual(getattr(each, name)(*arguments), told)
        for name in ("blocks", "image", "journal"):
            told = getattr(self.both.store, name)()
            told.clear()
            self.assertNotEqual(getattr(self.both.store, name)(), told)
        told = self.both.store.bytes_of(1)
        told[0] = 9
        self.assertEqual(self.told("value", 1, 1, "a"), 100)


class Devices(unittest.TestCase):
    def setUp(self):
        self.both = Both(TEXT, 256, slow=True)
        self.do, self.told = self.both.do, self.both.told
        self.do("create", "ship", 1)

    def test_devices_are_counted_from_1(self):
        self.assertEqual([self.do("device") for _ in range(5)], [1, 2, 3, 4, 5])
        self.assertEqual([self.told("busy", device) for device in range(1, 6)], [False] * 5)

    def test_leases_are_counted_from_1(self):
        self.do("device")
        self.do("device")
        self.assertEqual([self.do("lease", device, 1, "a", False) for device in (1, 2, 1)], [1, 2, 3])
        self.assertEqual(self.told("held"), [1, 2, 3])
        self.assertIsNone(self.do("release", 2))
        self.assertEqual(self.told("held"), [1, 3])
        self.assertEqual(self.do("lease", 2, 1, "h", True), 4)
        self.assertEqual(self.told("held"), [1, 3, 4])
        self.assertEqual(self.both.store.words(4), (("", 4, 1, False),))
        self.assertEqual(self.both.store.words(1), (("", 0, 2, False),))

    def test_a_refused_lease_takes_no_number(self):
        self.do("device")
        self.do("lease", 1, 1, "a", True)
        self.assertEqual(self.both.refused("lease", 1, 1, "a", False), "Leased")
        self.assertEqual(self.do("lease", 1, 1, "marks", False), 2)

    def test_a_work(self):
        self.do("device")
        self.do("lease", 1, 1, "a", True)
        self.assertIsNone(self.do("begin", 1, "add", 1, "a", 200, None, None))
        self.assertTrue(self.told("busy", 1))
        self.assertEqual([self.do("step", 1) for _ in range(4)], [("going",)] * 3 + [("done", 300)])
        self.assertFalse(self.told("busy", 1))
        self.assertEqual(self.do("step", 1), ("idle",))
        self.do("release", 1)
        self.assertEqual(self.told("value", 1, 1, "a"), 300)

    def test_an_idle_device(self):
        self.do("device")
        for _ in range(3):
            self.assertEqual(self.do("step", 1), ("idle",))
        self.assertIsNone(self.do("abort", 1))


class Checkpoints(unittest.TestCase):
    def setUp(self):
        self.both = Both(TEXT, 128, slow=True)
        self.do, self.told = self.both.do, self.both.told

    def test_back(self):
        self.do("create", "ship", 1)
        self.do("put", 1, "a", 5)
        self.do("push", 1, "l", 6)
        blocks_then, bytes_then = self.both.store.blocks(), self.both.store.bytes_of(1)
        self.assertEqual(self.do("checkpoint"), 1)
        self.do("put", 1, "a", 7)
        self.do("push", 1, "l", 8)
        self.do("create", "port", 1)
        self.do("select", 1, "h", "s")
        self.do("upgrade", 1, 2)
        self.do("grow", 256)
        self.assertEqual(self.do("back"), 0)
        self.assertEqual((self.told("numbers"), self.told("size"), self.told("kind", 1)), ([1], 128, ("ship", 1)))
        self.assertEqual(self.told("values", 1, 1, "")[0], ("a", 5))
        self.assertEqual((self.told("values", 1, 1, "l"), self.told("value", 1, 1, "h")), ([("l.0", 6)], 0))
        self.assertEqual((self.both.store.blocks(), self.both.store.bytes_of(1)), (blocks_then, bytes_then))
        # The number of the next record stays.
        self.assertEqual((self.told("next_number"), self.do("create", "port", 1)), (3, 3))

    def test_a_deleted_record_comes_back(self):
        for _ in range(2):
            self.do("create", "port", 1)
        self.do("put", 2, "d", 9)
        self.do("checkpoint")
        self.do("delete", 2)
        self.do("delete", 1)
        self.assertEqual(self.told("numbers"), [])
        self.do("back")
        self.assertEqual((self.told("numbers"), self.told("value", 2, 1, "d")), ([1, 2], 9))

    def test_four_and_no_more(self):
        self.assertEqual([self.do("checkpoint") for _ in range(4)], [1, 2, 3, 4])
        self.assertEqual(self.both.refused("checkpoint"), "checkpoint")
        self.assertEqual(self.do("commit"), 3)
        self.assertEqual(self.do("checkpoint"), 4)
        self.assertEqual([self.do("back") for _ in range(4)], [3, 2, 1, 0])
        for name in ("back", "commit"):
            self.assertEqual(self.both.refused(name), "checkpoint")

    def test_a_stack(self):
        self.do("create", "port", 1)
        for value in range(1, 5):
            self.do("put", 1, "d", value)
            self.do("checkpoint")
        self.do("put", 1, "d", 99)
        self.assertEqual(self.do("commit"), 3)
        self.assertEqual(self.told("value", 1, 1, "d"), 99)
        seen = []
        for _ in range(3):
            self.do("back")
            seen.append(self.told("value", 1, 1, "d"))
            self.do("put", 1, "d", 77)
        self.assertEqual(seen, [3, 2, 1])

    def test_what_is_changed_behind_going_back_is_not_kept(self):
        self.do("create", "ship", 1)
        self.do("push", 1, "m", None)
        self.do("checkpoint")
        self.do("checkpoint")
        self.do("put", 1, "m.0.k", 3)
        self.do("back")
        self.assertEqual(self.told("value", 1, 1, "m.0.k"), 0)
        self.do("put", 1, "m.0.k", 4)
        self.do("put", 1, "a", 4)
        self.do("back")
        self.assertEqual((self.told("value", 1, 1, "m.0.k"), self.told("value", 1, 1, "a")), (0, 100))

    def test_devices_and_numbers_of_leases_stay(self):
        self.do("create", "port", 1)
        self.do("device")
        self.do("lease", 1, 1, "d", True)
        self.do("release", 1)
        self.do("checkpoint")
        self.do("device")
        self.do("lease", 2, 1, "d", True)
        self.do("release", 2)
        self.do("back")
        self.assertEqual(self.told("busy", 2), False)
        self.assertEqual((self.do("device"), self.do("lease", 2, 1, "d", True)), (3, 3))

    def test_devices_work_behind_going_back(self):
        self.do("create", "port", 1)
        self.do("device")
        self.do("checkpoint")
        self.do("put", 1, "d", 6)
        self.do("back")
        self.do("lease", 1, 1, "d", True)
        self.do("begin", 1, "exchange", 1, "d", 50, None, None)
        self.assertEqual([self.do("step", 1) for _ in range(2)], [("going",), ("done", 0)])
        self.do("release", 1)
        self.assertEqual(self.told("value", 1, 1, "d"), 50)

    def test_full_behind_going_back(self):
        self.do("create", "ship", 1)
        self.do("checkpoint")
        self.do("grow", 256)
        for _ in range(3):
            self.do("create", "ship", 1)
        self.do("back")
        self.assertEqual(self.told("used"), 40)
        self.do("create", "ship", 1)
        self.do("create", "ship", 1)
        self.assertEqual(self.both.refused("create", "ship", 1), "Full")


if __name__ == "__main__":
    unittest.main()
