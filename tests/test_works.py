"""s1, s2, d1, d2, d3, t1: works of devices in a store and a table, while all else goes on."""

import unittest

from both import Both

TEXT = """
struct s { x: u8; y: i32 big; to: ref r; }
record r 1 { a: u16; c: bits u16 big { lo 4, hi 12 }; h: one of s; l: list of u16; m: list of s; to: ref r; i: i8; }
record pad 1 { d: 3 of u32; }
"""
# Paths, their values ahead of all works, how many bytes their words have, and whether they are the whole words.
FIELDS = {
    "a": (500, 2, True), "c.lo": (9, 2, False), "c.hi": (4000, 2, False), "h.s.y": (-70000, 4, True), "l.1": (300, 2, True),
    "m.0.x": (8, 1, True), "m.0.y": (2 ** 31 - 1, 4, True), "i": (-100, 1, True),
}


def made(size=512):
    """Record 3 has the values of FIELDS; pads are ahead of it and behind it."""
    both = Both(TEXT, size)
    for name in ("pad", "pad", "r", "pad", "pad"):
        both.do("create", name, 1)
    both.do("select", 3, "h", "s")
    for value in (None, None, None):
        both.do("push", 3, "l", value)
    both.do("push", 3, "m", None)
    for path, (value, _, _) in FIELDS.items():
        both.do("put", 3, path, value)
    for _ in range(3):
        both.do("device")
    return both


def disturb(both, turn):
    """Something that moves blocks, makes or frees them; another thing at each turn."""
    numbers = [number for number in both.told("numbers") if both.told("kind", number)[0] == "pad"]
    if turn % 6 == 0 and numbers:
        both.do("delete", numbers[0])
    elif turn % 6 == 1:
        both.do("push_together")
    elif turn % 6 == 2:
        both.do("grow", both.told("size") + 8)
    elif turn % 6 == 3:
        both.call("create", "pad", 1)
    elif turn % 6 == 4 and numbers:
        both.do("put", numbers[-1], "d.1", 2 ** 32 - 1)
    else:
        both.do("push_together")


class Case(unittest.TestCase):
    def start(self, both, kind, path, value, other_path=None):
        """Leases what a work of device 1 on record 3 needs, and begins it."""
        within = other_path is not None and other_path.split(".")[:1] == path.split(".")[:1] and path[0] in "ac"
        both.do("lease", 1, 3, path, within or kind not in ("get", "copy"))
        if other_path is not None and not within:
            both.do("lease", 1, 3, other_path, True)
        both.do("begin", 1, kind, 3, path, value, None if other_path is None else 3, other_path)

    def now(self, both):
        """The values of all fields, behind the end of all leases."""
        both.compare()
        return {path: both.told("value", 3, 1, path) for path in FIELDS}

    def expected(self, **changes):
        found = {path: told[0] for path, told in FIELDS.items()}
        found.update({path.replace("_", "."): value for path, value in changes.items()})
        return found


class Ends(Case):
    def lead(self, kind, path, value, other_path, steps, told, changes):
        for first_turn in range(6):
            both = made()
            self.start(both, kind, path, value, other_path)
            for number in range(steps):
                disturb(both, first_turn + number)
                both.compare_image()
                self.assertTrue(both.told("busy", 1))
                answer = both.do("step", 1)
                self.assertEqual(answer, ("going",) if number + 1 < steps else ("done", told), (kind, path, number))
            self.assertFalse(both.told("busy", 1))
            self.assertEqual(both.do("step", 1), ("idle",))
            both.do("abort", 1)
            self.assertEqual(self.now(both), self.expected(**changes))

    def test_get(self):
        for path, (value, size, _) in FIELDS.items():
            self.lead("get", path, None, None, size, value, {})

    def test_set(self):
        for path, new in (("a", 65535), ("c.lo", 15), ("c.hi", 0), ("h.s.y", -2 ** 31), ("l.1", 1), ("m.0.x", 255), ("i", 127)):
            _, size, whole = FIELDS[path]
            self.lead("set", path, new, None, size if whole else 2 * size, None, {path.replace(".", "_"): new})

    def test_add(self):
        for path, value in (("a", -500), ("c.lo", 6), ("c.hi", -4000), ("h.s.y", 140000), ("l.1", 65235), ("m.0.y", -2 ** 32 + 1), ("i", 1)):
            new = FIELDS[path][0] + value
            self.lead("add", path, value, None, 2 * FIELDS[path][1], new, {path.replace(".", "_"): new})

    def test_exchange(self):
        for path, new in (("a", 1), ("c.lo", 0), ("h.s.y", 5), ("l.1", 65535), ("m.0.x", 0), ("i", -128)):
            self.lead("exchange", path, new, None, 2 * FIELDS[path][1], FIELDS[path][0], {path.replace(".", "_"): new})

    def test_copy(self):
        for path, other, steps in (
            ("a", "l.1", 4), ("l.1", "a", 4), ("m.0.x", "c.lo", 5), ("c.lo", "c.hi", 6), ("i", "m.0.y", 5), ("i", "h.s.y", 5),
            ("c.hi", "a", 4), ("m.0.x", "i", 2), ("a", "a", 4), ("l.1", "c.hi", 6),
        ):
            value = FIELDS[path][0]
            self.lead("copy", path, None, other, steps, value, {other.replace(".", "_"): value})

    def test_out_of_range(self):
        for kind, path, value, other, at in (
            ("add", "a", 65036, None, 2), ("add", "a", -501, None, 2), ("add", "c.lo", 7, None, 2), ("add", "m.0.y", 1, None, 4),
            ("add", "i", -29, None, 1), ("copy", "a", None, "i", 2), ("copy", "i", None, "a", 1), ("copy", "h.s.y", None, "l.1", 4),
            ("copy", "c.hi", None, "c.lo", 2), ("copy", "a", None, "c.lo", 2), ("add", "m.0.x", -4294967295, None, 1),
        ):
            both = made()
            self.start(both, kind, path, value, other)
            held = both.told("held")
            for number in range(at - 1):
                disturb(both, number)
                self.assertEqual(both.do("step", 1), ("going",))
            self.assertEqual(both.refused("step", 1), "OutOfRange", (kind, path))
            # The work is over; the leases are still held.
            self.assertFalse(both.told("busy", 1))
            self.assertEqual((both.do("step", 1), both.told("held")), (("idle",), held))
            both.do("release", 1)
            both.do("abort", 1)
            self.assertEqual(self.now(both), self.expected())


class Aborts(Case):
    def total(self, kind, path, other):
        """How many steps a work takes (s1)."""
        _, size, _ = FIELDS[path]
        _, written, whole = FIELDS[other or path]
        return {
            "get": size, "set": written if whole else 2 * written, "add": 2 * size, "exchange": 2 * size,
            "copy": size + (written if whole else 2 * written),
        }[kind]

    def test_at_each_step(self):
        for kind, path, value, other in (
            ("get", "a", None, None), ("set", "a", 1, None), ("set", "h.s.y", 5, None), ("set", "c.lo", 3, None), ("set", "i", 7, None),
            ("add", "l.1", 1, None), ("add", "c.hi", -1, None), ("add", "m.0.y", -300, None), ("exchange", "h.s.y", 99, None),
            ("exchange", "m.0.x", 99, None), ("copy", "a", None, "h.s.y"), ("copy", "l.1", None, "c.hi"), ("copy", "m.0.x", None, "i"),
        ):
            written = path if other is None else other
            size = FIELDS[written][1]
            new = {"set": value, "exchange": value, "copy": FIELDS[path][0], "add": FIELDS[path][0] + (value or 0)}.get(kind)
            done = self.expected(**({} if kind == "get" else {written.replace(".", "_"): new}))
            for steps in range(12):
                both = made()
                self.start(both, kind, path, value, other)
                total = self.total(kind, path, other)
                if steps >= total:
                    break
                for number in range(steps):
                    disturb(both, number)
                    both.do("step", 1)
                both.do("delete", 4)
                both.do("push_together")
                self.assertIsNone(both.do("abort", 1))
                self.assertEqual((both.told("held"), both.told("busy", 1)), ([], False))
                has_written = kind != "get" and steps > total - size
                self.assertEqual(self.now(both), done if has_written else self.expected(), (kind, path, steps))

    def test_only_the_leases_of_the_device_end(self):
        both = made()
        for device, path in ((1, "a"), (2, "i"), (1, "c"), (3, "l")):
            both.do("lease", device, 3, path, True)
        both.do("begin", 2, "set", 3, "i", 5, None, None)
        both.do("abort", 1)
        self.assertEqual((both.told("held"), both.told("busy", 2)), ([2, 4], True))
        self.assertEqual(both.do("step", 2), ("done", None))

    def test_a_device_that_was_aborted_works_again(self):
        both = made()
        both.do("lease", 1, 3, "a", True)
        both.do("begin", 1, "set", 3, "a", 5, None, None)
        both.do("abort", 1)
        self.assertEqual(both.do("step", 1), ("idle",))
        self.assertEqual(both.refused("begin", 1, "set", 3, "a", 5, None, None), "not leased")
        both.do("lease", 1, 3, "a", True)
        both.do("begin", 1, "set", 3, "a", 6, None, None)
        self.assertEqual([both.do("step", 1) for _ in range(2)], [("going",), ("done", None)])


class References(Case):
    def test_get(self):
        both = made()
        both.do("create", "r", 1)
        both.do("put", 3, "to", 6)
        both.do("lease", 1, 3, "to", False)
        for turn, told in enumerate((6, 6, 0)):
            both.do("begin", 1, "get", 3, "to", None, None, None)
            for _ in range(3):
                self.assertEqual(both.do("step", 1), ("going",))
            if turn == 2:
                both.do("delete", 6)
            self.assertEqual(both.do("step", 1), ("done", told))

    def test_get_of_one_that_was_deleted_ahead(self):
        both = made()
        both.do("create", "r", 1)
        both.do("select", 3, "h", "s")
        both.do("put", 3, "h.s.to", 6)
        both.do("delete", 6)
        both.do("lease", 1, 3, "h.s.to", True)
        both.do("begin", 1, "get", 3, "h.s.to", None, None, None)
        self.assertEqual([both.do("step", 1) for _ in range(4)][-1], ("done", 0))

    def test_set(self):
        both = made()
        both.do("create", "r", 1)
        both.do("lease", 1, 3, "to", True)
        both.do("begin", 1, "set", 3, "to", 6, None, None)
        self.assertEqual([both.do("step", 1) for _ in range(4)], [("going",)] * 3 + [("done", None)])
        both.do("release", 1)
        self.assertEqual(both.told("value", 3, 1, "to"), 6)

    def test_set_to_one_that_is_deleted_meanwhile(self):
        both = made()
        both.do("create", "r", 1)
        both.do("checkpoint")
        both.do("lease", 1, 3, "to", True)
        both.do("begin", 1, "set", 3, "to", 6, None, None)
        for _ in range(2):
            both.do("step", 1)
        both.do("delete", 6)
        for _ in range(2):
            both.do("step", 1)
        both.do("release", 1)
        self.assertEqual(both.told("value", 3, 1, "to"), 0)
        both.compare()


class Reading(Case):
    def test_nobody_reads_a_half_written_value(self):
        both = made()
        both.do("lease", 1, 3, "h.s.y", True)
        both.do("begin", 1, "set", 3, "h.s.y", -1, None, None)
        for _ in range(3):
            both.do("step", 1)
            for name, path in (("value", "h.s.y"), ("values", "h"), ("values", "")):
                self.assertEqual(both.ask(name, 3, 1, path), ("Leased", None))
            self.assertEqual(both.told("value", 3, 1, "h.s.x"), 0)
            self.assertEqual(both.ask("value", 3, 1, "h"), ("told", 1))
        self.assertEqual(both.do("step", 1), ("done", None))
        both.do("release", 1)
        self.assertEqual(both.told("value", 3, 1, "h.s.y"), -1)

    def test_other_fields_are_written_meanwhile(self):
        both = made()
        both.do("lease", 1, 3, "c.lo", True)
        both.do("lease", 2, 3, "m.0.y", True)
        both.do("begin", 1, "add", 3, "c.lo", -9, None, None)
        both.do("begin", 2, "exchange", 3, "m.0.y", 0, None, None)
        for turn in range(4):
            both.do("step", 1)
            both.do("put", 3, "a", turn)
            both.do("step", 2)
            both.do("put", 3, "i", turn)
            both.do("push", 3, "l", turn)
        for _ in range(4):
            told = both.do("step", 2)
        self.assertEqual(told, ("done", 2 ** 31 - 1))
        both.do("abort", 1)
        both.do("abort", 2)
        expected = self.expected(c_lo=0, m_0_y=0, a=3, i=3)
        self.assertEqual(self.now(both), expected)
        self.assertEqual(both.told("length", 3, 1, "l"), 7)

    def test_shared_words_are_read_by_several(self):
        both = made()
        for device in (1, 2, 3):
            both.do("lease", device, 3, "a", False)
            both.do("begin", device, "get", 3, "a", None, None, None)
        self.assertEqual([both.do("step", device) for device in (1, 2, 3)], [("going",)] * 3)
        self.assertEqual(both.told("value", 3, 1, "a"), 500)
        self.assertEqual([both.do("step", device) for device in (3, 2, 1)], [("done", 500)] * 3)


class Bytes(Case):
    """What a work writes in a store, byte by byte, where the word is then."""

    def test_one_byte_a_step(self):
        both = made()
        both.do("lease", 1, 3, "h.s.y", True)
        both.do("begin", 1, "set", 3, "h.s.y", 0x01020304, None, None)
        before = both.store.bytes_of(3)
        at = both.store.words(1)[-1][1]
        for number in range(4):
            disturb(both, number)
            both.do("step", 1)
            before[at + number] = number + 1
            self.assertEqual(both.store.bytes_of(3)[at:at + 4], before[at:at + 4])


class Copies(Case):
    def test_between_records(self):
        both = made()
        both.do("create", "r", 1)
        both.do("push", 6, "l", 0)
        both.do("lease", 1, 3, "l.1", False)
        both.do("lease", 1, 6, "l.0", True)
        both.do("begin", 1, "copy", 3, "l.1", None, 6, "l.0")
        for number in range(3):
            disturb(both, number)
            self.assertEqual(both.do("step", 1), ("going",))
        self.assertEqual(both.do("step", 1), ("done", 300))
        both.do("abort", 1)
        self.assertEqual((both.told("values", 6, 1, "l"), both.told("value", 3, 1, "l.1")), ([("l.0", 300)], 300))

    def test_a_source_that_is_leased_exclusively(self):
        both = made()
        both.do("lease", 1, 3, "a", True)
        both.do("begin", 1, "copy", 3, "a", None, 3, "a")
        self.assertEqual([both.do("step", 1) for _ in range(4)], [("going",)] * 3 + [("done", 500)])


if __name__ == "__main__":
    unittest.main()
