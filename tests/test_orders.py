"""t3: each refusal of a call by its own reason, and their orders where several of them hold."""

import unittest

from both import Both
from recstore.errors import BadArgument, Full
from recstore.images import write_image
from recstore.blocks import empty
from recstore.store import Store, open_image
from recstore.table import Table

TEXT = """
struct s { x: u8; y: i16 big; to: ref port; }
struct v { k: u8; o: one of s; }
record ship 1 { a: u16 = 100; i: i8; marks: bits u8 { sail 1, crew 6 }; h: one of s, v; l: list of u8; m: list of v; next: ref ship; }
record ship 2 { a: u32; h: one of s, v; n was l: list of u8; next: ref ship; }
record port 1 { d: u8; }
"""


class Case(unittest.TestCase):
    """The records are 1 and 2, ships, and 3, a port; the devices 1 and 2; nothing is leased."""

    size = 512

    def setUp(self):
        self.both = Both(TEXT, self.size)
        self.do = self.both.do
        for name in ("ship", "ship", "port"):
            self.do("create", name, 1)
        self.do("device")
        self.do("device")

    def refused(self, reason, name, *arguments):
        self.assertEqual(self.both.refused(name, *arguments), reason, (name, arguments))
        self.both.compare()

    def asked(self, reason, name, *arguments):
        told = self.both.ask(name, *arguments)
        self.assertEqual(told, ("BadArgument", reason) if reason in ("record", "version", "device") else
                         ("Leased", None) if reason == "Leased" else ("BadField", reason), (name, arguments))


class Create(Case):
    size = 120

    def test_reasons(self):
        for name in ("boat", "", "s", "shi", "Ship"):
            self.refused("type", "create", name, 1)
        for name, version in (("ship", 0), ("ship", 3), ("port", 2), ("ship", -1)):
            self.refused("version", "create", name, version)

    def test_orders(self):
        self.refused("type", "create", "boat", 9)
        self.do("grow", 128)
        self.do("create", "port", 1)
        # There is no room for another record.
        self.refused("Full", "create", "ship", 1)
        self.refused("version", "create", "ship", 3)
        self.refused("type", "create", "boat", 1)

    def test_a_refused_one_takes_no_number(self):
        self.refused("version", "create", "ship", 3)
        self.refused("Full", "create", "ship", 1)
        self.assertEqual(self.both.told("next_number"), 4)


class Numbers(unittest.TestCase):
    def test_the_last_number(self):
        store, table = Store(TEXT, 64), Table(TEXT, 64)
        for each in (store, table):
            for number in range(1, 9999):
                each.create("port", 1)
                each.delete(number)
            self.assertEqual(each.next_number(), 9999)
            self.assertEqual(each.create("port", 1), 9999)
            self.assertEqual((each.next_number(), each.numbers()), (10000, [9999]))
            self.refused(each)
            each.delete(9999)
            self.refused(each)

    def refused(self, each):
        for name, version, reason in (("port", 1, "numbers"), ("ship", 2, "numbers"), ("port", 2, "version"), ("boat", 1, "type")):
            with self.assertRaises(BadArgument) as caught:
                each.create(name, version)
            self.assertEqual(caught.exception.reason, reason)

    def test_numbers_ahead_of_full(self):
        store = open_image(TEXT, write_image(empty(64), 9996))
        for number in (9996, 9997, 9998, 9999):
            self.assertEqual(store.create("port", 1), number)
        with self.assertRaises(BadArgument) as caught:
            store.create("port", 1)
        self.assertEqual(caught.exception.reason, "numbers")
        store = open_image(TEXT, write_image(empty(64), 9995))
        for number in (9995, 9996, 9997, 9998):
            self.assertEqual(store.create("port", 1), number)
        with self.assertRaises(Full):
            store.create("port", 1)


class Put(Case):
    def test_reasons(self):
        for number in (0, 4, -1, 9999):
            self.refused("record", "put", number, "a", 1)
        for path in ("", "b", "a.b", "marks", "h.x", "h.s", "l", "m", "m.0", "l.", "a.", "l.x", "l.00", "m.0.z", "n", "x" * 200):
            self.refused("no such field", "put", 1, path, 1)
        for path in ("l.0", "m.0.k", "m.59.o.s.x"):
            self.refused("no such element", "put", 1, path, 1)
        self.refused("tag", "put", 1, "h", 1)
        for path in ("h.s.x", "h.v.k"):
            self.refused("not active", "put", 1, path, 1)
        for path, value in (("a", 65536), ("a", -1), ("i", 128), ("i", -129), ("marks.crew", 64), ("marks.sail", 2)):
            self.refused("OutOfRange", "put", 1, path, value)
        for value in (3, 4, 9999, 2 ** 32 - 1):
            self.refused("no such record", "put", 1, "next", value)
        self.do("select", 1, "h", "s")
        self.refused("no such record", "put", 1, "h.s.to", 1)
        self.do("put", 1, "h.s.to", 3)
        self.do("put", 1, "next", 2)
        self.do("put", 1, "next", 0)

    def test_a_deleted_record_is_none(self):
        self.do("delete", 2)
        self.refused("record", "put", 2, "a", 1)
        self.refused("no such record", "put", 1, "next", 2)

    def test_leased(self):
        self.do("lease", 1, 1, "a", False)
        self.refused("Leased", "put", 1, "a", 1)

    def test_orders(self):
        self.refused("record", "put", 4, "b", 1)
        self.refused("no such field", "put", 1, "m.9.z", 1)
        self.refused("no such element", "put", 1, "m.9.o", 1)
        self.do("push", 1, "m", None)
        self.refused("tag", "put", 1, "m.0.o", 300)
        # An inactive tag; inactive fields of which the first has an integer that is out of range.
        self.refused("tag", "put", 1, "h.v.o", 1)
        self.refused("not active", "put", 1, "h.s.x", 256)
        self.refused("not active", "put", 1, "h.s.to", 1)
        self.do("select", 1, "h", "s")
        self.do("lease", 1, 1, "h.s.x", True)
        # The inactive field lies where a leased one is.
        self.refused("not active", "put", 1, "h.v.k", 1)
        self.refused("tag", "put", 1, "h", 1)
        self.refused("Leased", "put", 1, "h.s.x", 256)
        self.do("lease", 1, 1, "next", False)
        self.refused("Leased", "put", 1, "next", 2 ** 32)
        self.refused("Leased", "put", 1, "next", 3)
        for value in (-1, 2 ** 32):
            self.refused("OutOfRange", "put", 2, "next", value)


class Select(Case):
    def test_reasons(self):
        self.refused("record", "select", 4, "h", "s")
        for path in ("", "b", "h.s", "h.v", "m", "m.0", "h.o", "m.0.o.v"):
            self.refused("no such field", "select", 1, path, "s")
        self.refused("no such element", "select", 1, "m.0.o", "s")
        for path in ("a", "marks.sail", "next"):
            self.refused("not a union", "select", 1, path, "s")
        self.refused("not active", "select", 1, "h.v.o", "s")
        for name in ("x", "", "h", "port"):
            self.refused("no such alternative", "select", 1, "h", name)
        self.do("select", 1, "h", "v")
        self.refused("no such alternative", "select", 1, "h.v.o", "v")
        self.do("select", 1, "h.v.o", "s")

    def test_leased(self):
        self.do("lease", 1, 1, "h", False)
        self.refused("Leased", "select", 1, "h", "s")
        self.refused("Leased", "select", 1, "h", None)

    def test_orders(self):
        self.refused("record", "select", 4, "b", "x")
        self.refused("no such field", "select", 1, "m.3.z", "x")
        self.refused("no such element", "select", 1, "m.3.k", "x")
        self.do("push", 1, "m", None)
        self.refused("not a union", "select", 1, "m.0.o.s.x", "x")
        self.refused("not active", "select", 1, "h.v.o", "x")
        self.do("lease", 1, 1, "h", False)
        self.refused("not active", "select", 1, "h.v.o", "s")
        self.refused("Leased", "select", 1, "h", "x")
        self.refused("no such alternative", "select", 2, "h", "x")


class PushAndPop(Case):
    def test_reasons(self):
        for name in ("push", "pop"):
            value = (None,) if name == "push" else ()
            self.refused("record", name, 4, "l", *value)
            for list_name in ("", "a", "l.0", "n", "h", "list"):
                self.refused("no such list", name, 1, list_name, *value)
            self.refused("no such list", name, 3, "l", *value)
        self.refused("no value", "push", 1, "m", 0)
        for value in (-1, 256):
            self.refused("OutOfRange", "push", 1, "l", value)
        for name in ("l", "m"):
            self.refused("empty", "pop", 1, name)

    def test_leased(self):
        self.do("push", 1, "l", 1)
        self.do("push", 1, "m", None)
        for path in ("l", "l.0", "m", "m.0.k"):
            lease = self.do("lease", 1, 1, path, False)
            self.refused("Leased", "push", 1, path[0], None)
            self.refused("Leased", "pop", 1, path[0])
            other = "m" if path[0] == "l" else "l"
            self.do("push", 1, other, None)
            self.do("pop", 1, other)
            self.do("release", lease)

    def test_orders(self):
        self.refused("record", "push", 4, "x", 999)
        self.refused("record", "pop", 4, "x")
        self.refused("no such list", "push", 1, "x", 999)
        for list_name in ("l", "m"):
            for _ in range(60 if list_name == "l" else 1):
                self.do("push", 1, list_name, None)
        self.refused("long", "push", 1, "l", 256)
        self.refused("long", "push", 1, "l", None)
        self.do("lease", 1, 1, "l", True)
        self.refused("Leased", "push", 1, "l", 256)
        self.refused("no such list", "push", 1, "x", 256)
        self.do("lease", 1, 2, "m", True)
        self.refused("Leased", "push", 2, "m", 5)
        self.refused("Leased", "pop", 2, "m")

    def test_long_ahead_of_no_value_and_full(self):
        self.both = Both("struct s { x: u8; } record r 1 { l: list of s; } record q 1 { l: list of u8; a: 6 of u32; }", 144)
        self.do = self.both.do
        self.do("create", "r", 1)
        for _ in range(60):
            self.do("push", 1, "l", None)
        self.refused("long", "push", 1, "l", 5)
        # 88 bytes are used; 40 more leave 16.
        self.do("create", "q", 1)
        self.do("push", 2, "l", 1)
        for _ in range(7):
            self.do("push", 2, "l", 1)
        self.refused("OutOfRange", "push", 2, "l", 256)
        self.refused("Full", "push", 2, "l", 255)
        self.refused("long", "push", 1, "l", 256)

    def test_no_value_ahead_of_full(self):
        self.both = Both("struct s { x: u32; y: u32; } record r 1 { l: list of s; a: 6 of u32; b: 4 of u32; }", 64)
        self.do = self.both.do
        self.do("create", "r", 1)
        self.refused("no value", "push", 1, "l", -1)
        self.refused("Full", "push", 1, "l", None)


class DeleteAndUpgrade(Case):
    def test_reasons(self):
        for number in (0, 4, 9999):
            self.refused("record", "delete", number)
            self.refused("record", "upgrade", number, 2)
        for version in (-1, 0, 1, 3, 4):
            self.refused("version", "upgrade", 1, version)
        self.refused("version", "upgrade", 3, 2)
        self.do("upgrade", 1, 2)
        self.refused("version", "upgrade", 1, 2)
        self.refused("version", "upgrade", 1, 1)

    def test_orders(self):
        self.do("lease", 1, 1, "a", False)
        self.refused("Leased", "delete", 1)
        self.refused("Leased", "upgrade", 1, 2)
        self.refused("version", "upgrade", 1, 3)
        self.refused("record", "upgrade", 4, 3)
        self.do("upgrade", 2, 2)

    def test_leased_ahead_of_full(self):
        both = Both("record r 1 { a: u8; } record r 2 { a: u8; b: 6 of u32; c: 4 of u32; } record q 1 { d: u8; }", 64)
        self.both = both
        for name in ("r", "q", "q", "q"):
            both.do("create", name, 1)
        self.refused("Full", "upgrade", 1, 2)
        both.do("device")
        both.do("lease", 1, 1, "", False)
        self.refused("Leased", "upgrade", 1, 2)
        self.refused("version", "upgrade", 1, 3)


class Sizes(Case):
    def test_reasons(self):
        for size in (0, 8, -8, 504, 512, 513, 516, 519, 1023, 1025, 1032, 2048):
            self.refused("size", "grow", size)
        self.do("grow", 520)
        self.refused("size", "grow", 520)
        self.do("grow", 1024)
        for size in (1024, 1032):
            self.refused("size", "grow", size)


class CheckpointsAndLeases(Case):
    def test_checkpoint_ahead_of_leased(self):
        lease = self.do("lease", 1, 3, "d", False)
        self.refused("Leased", "checkpoint")
        self.refused("checkpoint", "back")
        self.refused("checkpoint", "commit")
        self.do("release", lease)
        for _ in range(4):
            self.do("checkpoint")
        self.do("lease", 1, 3, "d", False)
        self.refused("checkpoint", "checkpoint")
        self.refused("Leased", "back")
        # Nothing of a record goes back by this.
        self.assertEqual(self.do("commit"), 3)
        self.refused("Leased", "checkpoint")


class Lease(Case):
    def test_reasons(self):
        for device in (0, 3, -1):
            self.refused("device", "lease", device, 1, "a", True)
        self.refused("record", "lease", 1, 4, "a", True)
        for path in ("b", "a.b", "h.x", "l.", "m.0.z", "n", "."):
            self.refused("no such field", "lease", 1, 1, path, True)
        for path in ("l.0", "m.0", "m.0.k"):
            self.refused("no such element", "lease", 1, 1, path, True)
        for path in ("h.s", "h.v.o", "h.v.o.s.x"):
            self.refused("not active", "lease", 1, 1, path, False)
        self.do("lease", 1, 1, "a", True)
        self.refused("Leased", "lease", 1, 1, "a", False)

    def test_orders(self):
        self.refused("device", "lease", 3, 4, "b", True)
        self.refused("record", "lease", 1, 4, "b", True)
        self.refused("no such field", "lease", 1, 1, "m.4.z", True)
        self.refused("no such element", "lease", 1, 1, "m.4.o.s", True)
        self.do("select", 1, "h", "s")
        self.do("lease", 1, 1, "h.s", True)
        self.refused("not active", "lease", 2, 1, "h.v", True)
        self.refused("Leased", "lease", 2, 1, "h", False)


class Release(Case):
    def test_reasons(self):
        for lease in (0, 1, -1):
            self.refused("lease", "release", lease)
        lease = self.do("lease", 1, 1, "a", True)
        other = self.do("lease", 1, 1, "i", True)
        self.do("begin", 1, "get", 1, "a", None, None, None)
        for each in (lease, other):
            self.refused("busy", "release", each)
        self.refused("lease", "release", other + 1)
        self.do("step", 1)
        self.do("step", 1)
        self.do("release", lease)
        self.refused("lease", "release", lease)
        self.do("abort", 1)
        self.refused("lease", "release", other)


class StepAndAbort(Case):
    def test_reasons(self):
        for device in (0, 3, -1, 99):
            self.refused("device", "step", device)
            self.refused("device", "abort", device)
            self.asked("device", "busy", device)


class Begin(Case):
    """Device 1 has a, i, marks and next of record 1 exclusively, a of record 2 shared, and its tag h."""

    def setUp(self):
        Case.setUp(self)
        for path in ("a", "i", "marks", "next"):
            self.do("lease", 1, 1, path, True)
        self.do("lease", 1, 2, "a", False)
        self.do("lease", 1, 2, "h", True)

    def begin(self, reason, device, kind, number, path, value=None, other=None, other_path=None):
        self.refused(reason, "begin", device, kind, number, path, value, other, other_path)

    def test_devices_and_records(self):
        for device in (0, 3):
            self.begin("device", device, "get", 1, "a")
        for number in (0, 4):
            self.begin("record", 1, "set", number, "a", 1)
            self.begin("record", 1, "copy", 1, "a", None, number, "a")
            self.begin("record", 1, "copy", number, "a", None, 1, "a")
        self.begin("device", 3, "copy", 4, "b", None, 4, "b")

    def test_busy(self):
        self.do("begin", 1, "get", 1, "a", None, None, None)
        for kind, value in (("get", None), ("set", 1), ("add", 1), ("exchange", 1)):
            self.begin("busy", 1, kind, 1, "a", value)
        self.begin("busy", 1, "copy", 1, "b", None, 1, "b")
        self.begin("record", 1, "copy", 1, "a", None, 4, "a")
        self.begin("record", 1, "get", 4, "a")
        self.begin("not leased", 2, "get", 1, "a")
        self.do("step", 1)
        self.begin("busy", 1, "set", 1, "b", 999999)
        self.do("step", 1)
        self.do("begin", 1, "get", 1, "a", None, None, None)

    def test_no_such_field_and_no_such_element(self):
        for kind, value, other in (("get", None, ()), ("set", 1, ()), ("add", 1, ()), ("exchange", 1, ()), ("copy", None, (1, "a"))):
            for path in ("b", "", "marks", "h.s", "l", "m.0", "m.7.z"):
                self.begin("no such field", 1, kind, 1, path, value, *other)
            for path in ("l.0", "m.0.k", "m.7.o"):
                self.begin("no such element", 1, kind, 1, path, value, *other)

    def test_tags_and_references(self):
        self.begin("tag", 1, "set", 2, "h", 1)
        for kind, value in (("add", 1), ("exchange", 1)):
            for number, path in ((2, "h"), (1, "next")):
                self.begin("not a number", 1, kind, number, path, value)
        for number, path in ((2, "h"), (1, "next")):
            self.begin("not a number", 1, "copy", number, path, None, 1, "a")
            self.begin("not a number", 1, "copy", 1, "a", None, number, path)
        self.do("begin", 1, "get", 2, "h", None, None, None)
        self.assertEqual(self.do("step", 1), ("done", 0))
        self.do("begin", 1, "get", 1, "next", None, None, None)

    def test_not_active(self):
        for kind, value, other in (("get", None, ()), ("set", 1, ()), ("add", 1, ()), ("exchange", 1, ()), ("copy", None, (1, "a"))):
            self.begin("not active", 1, kind, 1, "h.s.x", value, *other)
        self.begin("not active", 1, "copy", 1, "a", None, 1, "h.v.k")
        # What is wrong with a tag or a reference comes ahead of it.
        self.begin("tag", 1, "set", 1, "h.v.o", 1)
        self.begin("not a number", 1, "add", 1, "h.v.o", 1)
        self.begin("not a number", 1, "exchange", 1, "h.s.to", 1)
        self.begin("not a number", 1, "copy", 1, "h.s.to", None, 1, "a")
        self.begin("not active", 1, "get", 1, "h.v.o")
        self.begin("not active", 1, "set", 1, "h.s.to", 5)

    def test_not_leased(self):
        for device, number, path in ((2, 1, "a"), (1, 3, "d"), (1, 2, "i"), (1, 1, "h")):
            self.begin("not leased", device, "get", number, path)
        for kind in ("set", "add", "exchange"):
            # Leased shared, leased by none, and leased by another device.
            for device, number, path in ((1, 2, "a"), (1, 2, "i"), (2, 1, "i")):
                self.begin("not leased", device, kind, number, path, 1)
        self.begin("not leased", 1, "copy", 2, "i", None, 1, "a")
        self.begin("not leased", 1, "copy", 1, "a", None, 2, "a")
        self.begin("not leased", 1, "copy", 1, "a", None, 3, "d")
        self.do("begin", 1, "copy", 2, "a", None, 1, "a")

    def test_another_slot_of_a_leased_word(self):
        self.do("lease", 2, 2, "marks.sail", True)
        self.do("begin", 2, "set", 2, "marks.crew", 5, None, None)

    def test_the_first_slot_ahead_of_the_target(self):
        self.begin("no such field", 1, "copy", 1, "b", None, 1, "m.0.k")
        self.begin("no such element", 1, "copy", 1, "m.0.k", None, 1, "b")
        self.begin("not a number", 1, "copy", 2, "h", None, 1, "b")
        self.begin("not active", 1, "copy", 1, "h.s.x", None, 1, "b")
        self.begin("not leased", 1, "copy", 2, "i", None, 1, "b")
        for reason, path in (("no such field", "b"), ("no such element", "l.0"), ("not a number", "next"), ("not active", "h.s.x"),
                             ("not leased", "l.0")):
            if reason == "not leased":
                self.do("push", 1, "l", 5)
            self.begin(reason, 1, "copy", 1, "a", None, 1, path)

    def test_out_of_range(self):
        for path, values in (("a", (-1, 65536)), ("i", (-129, 128)), ("marks.crew", (-1, 64)), ("marks.sail", (2, -1))):
            for value in values:
                self.begin("OutOfRange", 1, "set", 1, path, value)
                self.begin("OutOfRange", 1, "exchange", 1, path, value)
        for value in (4294967296, -4294967296, 2 ** 40):
            self.begin("OutOfRange", 1, "add", 1, "a", value)
        for value in (4294967295, -4294967295, 70000):
            self.do("begin", 1, "add", 1, "a", value, None, None)
            self.do("step", 1)
            self.assertEqual(self.both.refused("step", 1), "OutOfRange")

    def test_out_of_range_behind_all_others(self):
        for kind in ("set", "add", "exchange"):
            self.begin("not leased", 1, kind, 2, "a", 2 ** 33)
            self.begin("not active", 1, kind, 1, "h.s.x", 2 ** 33)
        self.begin("tag", 1, "set", 2, "h", 2 ** 33)

    def test_no_such_record(self):
        for value in (3, 4, 9999):
            self.begin("no such record", 1, "set", 1, "next", value)
        for value in (-1, 2 ** 32):
            self.begin("OutOfRange", 1, "set", 1, "next", value)
        self.begin("not leased", 1, "set", 2, "next", 3)
        for value in (2, 0):
            self.do("begin", 1, "set", 1, "next", value, None, None)
            for _ in range(3):
                self.assertEqual(self.do("step", 1), ("going",))
            self.assertEqual(self.do("step", 1), ("done", None))


class Reading(Case):
    def test_reasons(self):
        for name, arguments in (("value", (1, "a")), ("values", (1, "")), ("length", (1, "l"))):
            for number in (0, 4, 9999):
                self.asked("record", name, number, *arguments)
            for version in (-1, 0, 3):
                self.asked("version", name, 1, version, arguments[1])
        self.do("upgrade", 2, 2)
        for name, arguments in (("value", (1, "a")), ("values", (1, "")), ("length", (1, "l"))):
            self.asked("version", name, 2, 1, arguments[1])
            self.asked("version", name, 3, 2, arguments[1])
        for path in ("", "b", "marks", "h.s", "l", "n", "m.0"):
            self.asked("no such field", "value", 1, 1, path)
        for path in ("b", "h.x", "m.0.z", "n", "l.x", "."):
            self.asked("no such field", "values", 1, 1, path)
        for path in ("l.0", "m.0.k", "m.5.o.s.x"):
            self.asked("no such element", "value", 1, 1, path)
            self.asked("no such element", "values", 1, 1, path)
        for path in ("h.s.x", "h.v.o"):
            self.asked("not active", "value", 1, 1, path)
            self.asked("not active", "values", 1, 1, path)
        for name in ("", "a", "n", "l.0", "h"):
            self.asked("no such list", "length", 1, 1, name)
        for name in ("l", "m"):
            self.asked("no such list", "length", 1, 2, name)
        self.asked("record", "kind", 4)

    def test_orders(self):
        self.asked("record", "value", 4, 9, "b")
        self.asked("record", "length", 4, 9, "b")
        self.asked("version", "value", 1, 9, "b")
        self.asked("version", "values", 1, 9, "b")
        self.asked("version", "length", 1, 9, "b")
        self.asked("no such field", "value", 1, 1, "m.5.z")
        self.asked("no such element", "value", 1, 1, "m.5.o.s.x")
        self.do("select", 1, "h", "s")
        self.do("lease", 1, 1, "h.s", True)
        self.asked("not active", "value", 1, 1, "h.v.k")
        self.asked("Leased", "value", 1, 1, "h.s.x")
        self.asked("Leased", "values", 1, 1, "h.s")
        self.asked("version", "value", 1, 3, "h.s.x")


if __name__ == "__main__":
    unittest.main()
