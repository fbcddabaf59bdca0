"""e1, e2, e3: what leases that are held stand against, and what they do not."""

import unittest

from both import Both

TEXT = """
struct s { x: u8; y: u16; }
struct v { o: one of s; k: u32; }
record r 1 { a: u16; c: bits u16 { lo 4, hi 12 }; h: one of s, v; l: list of u16; m: list of v; to: ref r; }
record r 2 { b was a: u32; c: bits u16 { lo 4, hi 12 }; d: u8 = 7; h: one of s, v; n was l: list of u32; m: list of v; }
"""
PATHS = ("a", "c.lo", "c.hi", "h", "h.v.o", "h.v.o.s.x", "h.v.o.s.y", "h.v.k", "to", "l.0", "l.1", "m.0.o", "m.0.o.s.x", "m.0.k")
# Their paths lead to the fields of their alternatives, too.
TAGS = ("h", "h.v.o", "m.0.o")
NUMBERS = tuple(path for path in PATHS if path not in TAGS + ("to",))


class Case(unittest.TestCase):
    """Record 1 has elements and alternatives, as record 2 has; the devices are 1 and 2."""

    def setUp(self):
        self.both = Both(TEXT, 512)
        self.do = self.both.do
        for number in (1, 2):
            self.do("create", "r", 1)
            self.do("select", number, "h", "v")
            self.do("select", number, "h.v.o", "s")
            for value in (3, 4):
                self.do("push", number, "l", value)
            self.do("push", number, "m", None)
            self.do("select", number, "m.0.o", "s")
        self.do("device")
        self.do("device")

    def leased(self, name, *arguments):
        self.assertEqual(self.both.call(name, *arguments), ("Leased", None), (name, arguments))
        self.both.compare()

    def readable(self, number, version, path, is_readable):
        names = ("value",) if path in TAGS else ("value", "values")
        told = [self.both.ask(name, number, version, path) for name in names]
        self.assertEqual([each == ("Leased", None) for each in told], [not is_readable] * len(names), path)


class Reading(Case):
    def test_words_that_are_leased_exclusively(self):
        for path in NUMBERS + ("to",):
            lease = self.do("lease", 1, 1, path, True)
            word = "c" if path[0] == "c" else path
            for other in PATHS:
                self.readable(1, 1, other, not other.startswith(word))
                self.readable(2, 1, other, True)
            self.do("release", lease)
            self.readable(1, 1, path, True)

    def test_tags_and_headers_can_always_be_read(self):
        for path in ("h", "h.v.o", "h.v.o.s.x", "m.0.o", "m", ""):
            lease = self.do("lease", 1, 1, path, True)
            for tag in ("h", "h.v.o", "m.0.o"):
                self.assertEqual(self.both.ask("value", 1, 1, tag)[0], "told")
            self.assertEqual((self.both.told("length", 1, 1, "l"), self.both.told("length", 1, 2, "n")), (2, 2))
            self.do("release", lease)

    def test_words_that_are_leased_shared(self):
        self.do("lease", 1, 1, "", False)
        for path in ("l", "m", "h"):
            self.do("lease", 1, 1, path, False)
        for path in PATHS:
            self.readable(1, 1, path, True)

    def test_values_of_a_path(self):
        self.do("lease", 1, 1, "h.v.o.s.y", True)
        for path, is_readable in (("", False), ("h", False), ("h.v", False), ("h.v.o", False), ("h.v.o.s", False), ("h.v.k", True),
                                  ("a", True), ("c", True), ("l", True), ("m", True)):
            self.assertEqual(self.both.ask("values", 1, 1, path)[0] == "told", is_readable, path)
        self.do("lease", 1, 1, "m.0.k", True)
        for path, is_readable in (("m", False), ("m.0", False), ("m.0.o", True), ("m.0.o.s", True), ("l", True)):
            self.assertEqual(self.both.ask("values", 1, 1, path)[0] == "told", is_readable, path)

    def test_inactive_fields_are_not_read(self):
        self.do("select", 1, "h", "s")
        self.do("lease", 1, 1, "h.s.y", True)
        # The other alternative, under which the leased word lies, is read by nobody.
        self.assertEqual(self.both.ask("value", 1, 1, "h.v.k"), ("BadField", "not active"))
        self.assertEqual(self.both.ask("values", 1, 1, "h.s.x"), ("told", [("h.s.x", 0)]))
        self.assertEqual(self.both.ask("values", 1, 1, "h"), ("Leased", None))

    def test_as_a_newer_version(self):
        self.do("lease", 1, 1, "a", True)
        self.do("lease", 1, 1, "l.1", True)
        for path, is_readable in (("b", False), ("c.lo", True), ("n.0", True), ("n.1", False), ("d", True)):
            self.readable(1, 2, path, is_readable)
        self.assertEqual(self.both.ask("values", 1, 2, "n"), ("Leased", None))
        # An initial value has no word.
        self.assertEqual(self.both.told("value", 1, 2, "d"), 7)
        self.assertEqual(self.both.told("length", 1, 2, "n"), 2)

    def test_all_that_is_read_is_an_initial_value(self):
        both = Both("record r 1 { a: u8; } record r 2 { b: u8 = 4; c: i8 = -1; }", 64)
        both.do("create", "r", 1)
        both.do("device")
        both.do("lease", 1, 1, "", True)
        self.assertEqual(both.ask("values", 1, 1, ""), ("Leased", None))
        self.assertEqual(both.told("values", 1, 2, ""), [("b", 4), ("c", -1)])

    def test_by_the_device_of_the_lease_and_by_others(self):
        self.do("lease", 1, 1, "a", True)
        self.assertEqual(self.both.refused("begin", 2, "get", 1, "a", None, None, None), "not leased")
        self.do("put", 2, "a", 9)
        self.do("begin", 1, "get", 1, "a", None, None, None)
        self.assertEqual([self.do("step", 1) for _ in range(2)], [("going",), ("done", 0)])


class Writing(Case):
    def test_putting(self):
        for exclusive in (True, False):
            for path in NUMBERS + ("to",):
                lease = self.do("lease", 1, 1, path, exclusive)
                word = "c" if path[0] == "c" else path
                for other in NUMBERS + ("to",):
                    if other.startswith(word):
                        self.leased("put", 1, other, 1)
                    else:
                        self.do("put", 1, other, 1)
                    self.do("put", 2, other, 1)
                self.do("release", lease)

    def test_selecting(self):
        for exclusive in (True, False):
            for path, tags in (
                ("h", ("h", "h.v.o")), ("h.v.k", ("h",)), ("h.v.o.s.x", ("h", "h.v.o")), ("m", ("m.0.o",)), ("m.0.k", ()),
                ("m.0.o.s.y", ("m.0.o",)), ("a", ()), ("l", ()), ("", ("h", "h.v.o")),
            ):
                lease = self.do("lease", 1, 1, path, exclusive)
                for tag, name in (("h.v.o", "s"), ("h", "v"), ("m.0.o", "s")):
                    if tag in tags:
                        self.leased("select", 1, tag, name)
                        self.leased("select", 1, tag, None)
                self.do("release", lease)
                for tag in ("h.v.o", "m.0.o"):
                    self.do("select", 1, tag, "s")

    def test_selecting_beside_a_lease(self):
        self.do("lease", 1, 1, "h.v.k", True)
        self.do("select", 1, "h.v.o", None)
        self.do("select", 1, "m.0.o", None)
        self.do("select", 2, "h", "s")
        self.leased("select", 1, "h", "s")

    def test_pushing_and_popping(self):
        for exclusive in (True, False):
            for path, lists in (("l", "l"), ("l.0", "l"), ("m.0.o.s.x", "m"), ("m", "m"), ("", "lm"), ("a", ""), ("h", "")):
                lease = self.do("lease", 1, 1, path, exclusive)
                for name in "lm":
                    if name in lists:
                        self.leased("push", 1, name, None)
                        self.leased("pop", 1, name)
                    else:
                        self.do("push", 1, name, None)
                        self.do("pop", 1, name)
                    self.do("push", 2, name, None)
                    self.do("pop", 2, name)
                self.do("release", lease)

    def test_deleting_and_upgrading(self):
        for path in ("a", "h", "l", "m.0.k", ""):
            for exclusive in (True, False):
                lease = self.do("lease", 1, 1, path, exclusive)
                self.leased("delete", 1)
                self.leased("upgrade", 1, 2)
                self.do("release", lease)
        self.do("lease", 1, 1, "a", False)
        self.do("upgrade", 2, 2)
        self.do("delete", 2)
        self.leased("delete", 1)
        self.do("abort", 1)
        self.do("delete", 1)

    def test_checkpoints(self):
        self.do("checkpoint")
        lease = self.do("lease", 2, 2, "l.0", False)
        self.leased("checkpoint")
        self.leased("back")
        self.assertEqual(self.do("commit"), 0)
        self.do("release", lease)
        self.do("checkpoint")
        self.do("back")

    def test_images(self):
        for path, exclusive, is_fine in (
            ("a", True, False), ("a", False, True), ("h", True, False), ("h.v.o.s", True, False), ("", True, False), ("", False, True),
            ("l", True, False), ("m", False, True),
        ):
            lease = self.do("lease", 1, 1, path, exclusive)
            if is_fine:
                self.assertGreater(len(self.both.store.image()), 500)
            else:
                self.leased_image()
            self.do("release", lease)
        # What covers tags and headers alone has nothing exclusively.
        self.do("select", 1, "h.v.o", None)
        self.do("lease", 1, 1, "h.v.o", True)
        self.do("create", "r", 1)
        self.do("lease", 1, 3, "m", True)
        self.assertGreater(len(self.both.store.image()), 500)

    def leased_image(self):
        self.both.compare()
        with self.assertRaises(Exception) as caught:
            self.both.store.image()
        self.assertEqual(type(caught.exception).__name__, "Leased")

    def test_by_the_device_of_the_lease_and_by_others(self):
        for kind in ("set", "add", "exchange"):
            lease = self.do("lease", 1, 1, "a", False)
            for device in (1, 2):
                self.assertEqual(self.both.refused("begin", device, kind, 1, "a", 1, None, None), "not leased")
            self.do("release", lease)
            lease = self.do("lease", 1, 1, "a", True)
            self.assertEqual(self.both.refused("begin", 2, kind, 1, "a", 1, None, None), "not leased")
            self.do("begin", 1, kind, 1, "a", 1, None, None)
            for _ in range(2 if kind == "set" else 4):
                self.do("step", 1)
            self.do("release", lease)

    def test_what_goes_on(self):
        self.do("lease", 1, 1, "", True)
        self.do("create", "r", 2)
        self.do("grow", 520)
        self.do("push_together")
        self.do("device")
        self.do("delete", 2)
        self.both.compare()


class Conflicts(Case):
    def test_leases(self):
        shared = {path: self.do("lease", 1, 1, path, False) for path in PATHS}
        for device in (1, 2):
            for path in NUMBERS + ("to", "", "h", "l", "m", "h.v.o.s"):
                self.leased("lease", device, 1, path, True)
                self.do("release", self.do("lease", device, 1, path, False))
                self.do("release", self.do("lease", device, 2, path, True))
        for lease in shared.values():
            self.do("release", lease)
        self.do("lease", 1, 1, "h.v", True)
        for device in (1, 2):
            for path in ("h.v.k", "h.v.o.s.x", "h"):
                for exclusive in (True, False):
                    self.leased("lease", device, 1, path, exclusive)
            for path in ("a", "c", "l.0", "m.0", "to"):
                self.do("release", self.do("lease", device, 1, path, True))

    def test_tags_and_headers_do_not_conflict(self):
        for path in ("l.0", "l.1", "h.v.k", "h.v.o.s.x", "h.v.o.s.y", "m.0.o.s.x", "m.0.k"):
            self.do("lease", 1 if path[0] == "l" else 2, 1, path, True)
        self.leased("lease", 2, 1, "h.v.o", False)
        self.leased("lease", 2, 1, "l", True)

    def test_slots_of_one_word(self):
        self.do("lease", 1, 1, "c.lo", True)
        self.leased("lease", 2, 1, "c.hi", False)
        self.leased("put", 1, "c.hi", 1)
        self.do("begin", 1, "set", 1, "c.hi", 9, None, None)

    def test_after_the_end(self):
        self.do("lease", 1, 1, "a", True)
        self.do("lease", 1, 1, "c", True)
        self.do("lease", 2, 1, "to", True)
        self.do("abort", 1)
        self.assertEqual(self.both.told("held"), [3])
        self.do("lease", 2, 1, "a", True)
        self.do("put", 1, "c.lo", 3)
        self.leased("put", 1, "to", 1)

    def test_deeper_words_keep_their_alternatives(self):
        self.do("lease", 1, 1, "h.v.o.s.x", True)
        for tag in ("h", "h.v.o"):
            self.leased("select", 1, tag, None)


if __name__ == "__main__":
    unittest.main()
