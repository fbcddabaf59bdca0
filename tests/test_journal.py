"""j1, j2: the numbers of each kind of entry, journals that are not as they should be, and restoring."""

import unittest

from both import Both, inner, outcome
from recstore.errors import BadJournal, OutOfRange
from recstore.journal import read_journal, write_entry
from recstore.schema import parse_schema
from recstore.store import Store, restore

TEXT = """struct s { x: u8; y: i32; }
record r 1 { a: i16 = -3; h: one of s; l: list of u8; to: ref r; } # a remark: !"$&'()*+,-./:;<=>?@[]^_`{|}~
record r 2 { b was a: i32; l: list of u16; to: ref r; h: one of s; }"""
NAMES = (
    "start", "create", "put", "select", "push", "pop", "delete", "upgrade", "grow", "push_together", "checkpoint", "back",
    "commit", "device", "lease", "release", "begin", "step", "abort",
)


def integer(number):
    return [1 if number < 0 else 0] + list(abs(number).to_bytes(4, "little"))


def text(signs):
    return [len(signs)] + [ord(sign) for sign in signs]


def entry(*numbers):
    return [len(numbers) % 256, len(numbers) // 256] + list(numbers)


def start(size=64, signs="record r 1 { a: u8; }"):
    return entry(0, size % 256, size // 256, *[ord(sign) for sign in signs])


# A call, its arguments, and the numbers behind the number of the call.
ENTRIES = [
    ("create", ("ship", 2), text("ship") + integer(2)),
    ("put", (1, "a.b", -300), integer(1) + text("a.b") + integer(-300)),
    ("put", (9999, "", 2 ** 32 - 1), integer(9999) + [0] + [0, 255, 255, 255, 255]),
    ("put", (1, "a", 0), integer(1) + text("a") + [0, 0, 0, 0, 0]),
    ("put", (1, "a", -1), integer(1) + text("a") + [1, 1, 0, 0, 0]),
    ("select", (7, "h", "s"), integer(7) + text("h") + text("s")),
    ("select", (7, "h", None), integer(7) + text("h") + [255]),
    ("push", (3, "l", 255), integer(3) + text("l") + integer(255)),
    ("push", (3, "l", None), integer(3) + text("l") + [2]),
    ("pop", (3, "l"), integer(3) + text("l")),
    ("delete", (65536,), [0, 0, 0, 1, 0]),
    ("upgrade", (5, 4), integer(5) + integer(4)),
    ("grow", (1024,), [0, 0, 4, 0, 0]),
    ("push_together", (), []), ("checkpoint", (), []), ("back", (), []), ("commit", (), []), ("device", (), []),
    ("lease", (1, 2, "l.0", True), integer(1) + integer(2) + text("l.0") + [1]),
    ("lease", (1, 2, "", False), integer(1) + integer(2) + [0] + [0]),
    ("release", (77,), integer(77)),
    ("begin", (1, "get", 2, "a", None, None, None), integer(1) + text("get") + integer(2) + text("a") + [2, 2, 255]),
    ("begin", (1, "add", 2, "a", -4294967295, None, None),
     integer(1) + text("add") + integer(2) + text("a") + [1, 255, 255, 255, 255] + [2, 255]),
    ("begin", (1, "copy", 2, "a", None, 3, "b.0"), integer(1) + text("copy") + integer(2) + text("a") + [2] + integer(3) + text("b.0")),
    ("step", (258,), [0, 2, 1, 0, 0]),
    ("abort", (1,), integer(1)),
]


class Entries(unittest.TestCase):
    def test_each_call(self):
        self.assertEqual({told[0] for told in ENTRIES}, set(NAMES[1:]))
        for name, arguments, numbers in ENTRIES:
            self.assertEqual(write_entry(name, arguments), entry(NAMES.index(name), *numbers), (name, arguments))

    def test_start(self):
        for size in (64, 256, 1024):
            for signs in (TEXT, "", "a" * 1500):
                expected = [(3 + len(signs)) % 256, (3 + len(signs)) // 256, 0, size % 256, size // 256] + [ord(sign) for sign in signs]
                self.assertEqual(write_entry("start", (size, signs)), expected)

    def test_they_are_read_as_they_were_written(self):
        journal, places = write_entry("start", (64, TEXT)), []
        expected = [("start", (64, TEXT), len(journal))]
        for name, arguments, _ in ENTRIES + ENTRIES[::-1]:
            journal += write_entry(name, arguments)
            expected.append((name, arguments, len(journal)))
        told = read_journal(journal)
        self.assertEqual(told, expected)
        self.assertEqual([tuple(map(type, each[1])) for each in told], [tuple(map(type, each[1])) for each in expected])

    def test_all_characters(self):
        signs = "\n" + "".join(chr(code) for code in range(32, 127) if code != 37)
        self.assertEqual(read_journal(start(64, signs)), [("start", (64, signs), 5 + len(signs))])
        journal = start() + write_entry("pop", (1, signs))
        self.assertEqual(read_journal(journal)[1][:2], ("pop", (1, signs)))

    def test_the_arguments_do_not_change(self):
        journal = start() + write_entry("device", ())
        before = list(journal)
        read_journal(journal)
        self.assertEqual(journal, before)


class Reading(unittest.TestCase):
    def refused(self, place, numbers):
        for call in (read_journal, restore):
            with self.assertRaises(BadJournal) as caught:
                call(numbers)
            self.assertEqual(caught.exception.place, place, numbers)

    def behind(self, *numbers):
        """An entry of these numbers is refused behind a start, and behind another entry."""
        for ahead in (start(), start() + write_entry("device", ())):
            self.refused(len(ahead), ahead + entry(*numbers))
            self.refused(len(ahead), ahead + entry(*numbers) + write_entry("device", ()))
            # If it is cut, it does not count.
            self.assertEqual(read_journal(ahead + entry(*numbers)[:-1])[-1][-1], len(ahead))

    def test_no_start(self):
        for numbers in ([], [0], [3, 0], start()[:-1], start()[:2], write_entry("device", ()), write_entry("device", ()) + start(),
                        entry(*[0] * 2), entry(0), [0, 0]):
            self.refused(0, numbers)

    def test_a_second_start(self):
        journal = start() + write_entry("device", ())
        self.refused(len(journal), journal + start())
        self.refused(len(start()), start() + start())

    def test_cuts(self):
        journal = start()
        ends = [len(journal)]
        for name, arguments, _ in ENTRIES:
            journal += write_entry(name, arguments)
            ends.append(len(journal))
        for cut in range(len(journal) + 1):
            whole = [end for end in ends if end <= cut]
            if whole:
                self.assertEqual([told[2] for told in read_journal(journal[:cut])], whole)
            else:
                self.refused(0, journal[:cut])

    def test_what_is_cut_is_not_looked_at(self):
        for left in ([7], [300], [5, 0, 99, 255, 255, 255], [255, 255] + [19] * 60, [1, 0], [9, 0, 16]):
            self.assertEqual(len(read_journal(start() + left)), 1, left)

    def test_calls(self):
        for code in (19, 20, 255):
            self.behind(code)
            self.behind(code, *integer(1))
        ahead = start()
        self.refused(len(ahead), ahead + [0, 0])
        self.refused(len(ahead), ahead + [0, 0] + write_entry("device", ()))

    def test_too_few_and_too_many_numbers(self):
        for name, _, numbers in ENTRIES:
            code = NAMES.index(name)
            for wrong in [numbers[:place] for place in range(len(numbers))] + [numbers + [0], numbers + [1, 2]]:
                self.behind(code, *wrong)

    def test_integers(self):
        # The first number of an integer; a negative zero.
        for first in (2, 3, 4, 128, 255):
            self.behind(6, first, 1, 0, 0, 0)
        self.behind(6, 1, 0, 0, 0, 0)
        self.behind(6, 2)
        self.behind(4, *integer(1), *text("l"), 3, 1, 0, 0, 0)
        self.behind(4, *integer(1), *text("l"), 1, 0, 0, 0, 0)
        self.behind(2, *integer(1), *text("l"), 2)
        self.behind(17, 2)

    def test_texts(self):
        for code in (0, 1, 9, 11, 13, 31, 37, 127, 128, 200, 255):
            self.behind(5, *integer(1), 2, 97, code)
            self.behind(3, *integer(1), *text("h"), 1, code)
            self.refused(0, entry(0, 64, 0, 32, code))
        self.behind(5, *integer(1), 255)
        self.behind(1, 255, *integer(1))
        self.behind(3, *integer(1), 255, *text("s"))
        self.behind(5, *integer(1), 3, 97, 97)
        self.behind(16, *integer(1), 255, *integer(1), *text("a"), 2, 2, 255)

    def test_true_and_false(self):
        for number in (2, 3, 255):
            self.behind(14, *integer(1), *integer(1), *text("a"), number)

    def test_numbers_that_are_no_bytes(self):
        for number in (-1, 256, 1000, -256):
            self.behind(6, 0, number, 0, 0, 0)
            self.behind(number)
            self.refused(len(start()), start() + [number, 0] + [13] * 300)
            self.refused(0, [number] + start()[1:])
            self.refused(0, entry(0, number, 0))

    def test_the_first_one_that_is_wrong(self):
        journal = start() + write_entry("device", ())
        self.refused(len(journal), journal + entry(77) + entry(6, 9) + start())


class Restoring(unittest.TestCase):
    def refused(self, place, numbers):
        with self.assertRaises(BadJournal) as caught:
            restore(numbers)
        self.assertEqual(caught.exception.place, place)

    def test_a_start_that_is_none(self):
        for size, signs in ((65, ""), (0, ""), (1032, ""), (56, ""), (64, "record"), (64, "record r 2 { a: u8; }"), (64, "x" * 1501)):
            journal = write_entry("start", (size, signs))
            self.assertEqual(read_journal(journal)[0][1], (size, signs))
            self.refused(0, journal)
            self.refused(0, journal + write_entry("device", ()))

    def test_calls_that_are_refused(self):
        ahead = start(64, "struct s { x: u8; } record r 1 { a: u8; h: one of s; l: list of u8; to: ref r; n: list of s; } record r 2 { a: u8; }")
        for name, arguments in (("create", ("r", 1)), ("device", ()), ("lease", (1, 1, "a", True))):
            ahead += write_entry(name, arguments)
        for name, arguments in (
            ("create", ("q", 1)), ("create", ("r", 3)), ("create", ("r", -1)), ("put", (2, "a", 1)), ("put", (-1, "a", 1)), ("put", (1, "a", 1)),
            ("put", (1, "b", 1)), ("put", (1, "to", -1)), ("select", (1, "h", "t")), ("select", (1, "a", None)), ("push", (1, "l", 256)),
            ("push", (1, "n", 0)), ("push", (1, "", None)), ("pop", (1, "l")), ("delete", (1,)), ("delete", (0,)), ("upgrade", (1, 2)),
            ("upgrade", (1, 1)), ("grow", (64,)), ("grow", (-8,)), ("checkpoint", ()), ("back", ()), ("commit", ()), ("lease", (2, 1, "h", False)),
            ("lease", (1, 1, "a", False)), ("release", (2,)), ("release", (-1,)), ("step", (2,)), ("step", (0,)), ("abort", (2,)), ("abort", (-1,)),
            ("begin", (1, "set", 1, "a", 256, None, None)), ("begin", (1, "get", 1, "h", None, None, None)),
            ("begin", (1, "copy", 1, "a", None, 2, "a")),
        ):
            self.refused(len(ahead), ahead + write_entry(name, arguments))
            self.refused(len(ahead), ahead + write_entry(name, arguments) + write_entry("device", ()))
        restore(ahead + write_entry("step", (1,)))

    def test_works_that_there_are_not(self):
        ahead = start()
        for name, arguments in (("create", ("r", 1)), ("device", ()), ("lease", (1, 1, "a", True))):
            ahead += write_entry(name, arguments)
        for kind, value, other, other_path in (
            ("take", None, None, None), ("", 1, None, None), ("get", 1, None, None), ("set", None, None, None), ("add", None, None, None),
            ("exchange", None, None, None), ("copy", None, None, None), ("copy", 1, 1, "a"), ("copy", None, 1, None), ("copy", None, None, "a"),
            ("get", None, 1, "a"), ("set", 1, 1, "a"), ("set", 1, None, "a"),
        ):
            self.refused(len(ahead), ahead + write_entry("begin", (1, kind, 1, "a", value, other, other_path)))

    def test_all_entries_are_read_ahead_of_the_first_call(self):
        journal = start() + write_entry("delete", (1,))
        self.refused(len(start()), journal)
        self.refused(len(journal), journal + entry(99))
        self.refused(len(journal), journal + start())
        # A start that is none is read rightly, so that the entry behind it is the first wrong one.
        wrong = write_entry("start", (65, "record"))
        self.refused(len(wrong), wrong + entry(99))


class Telling(unittest.TestCase):
    def test_the_start(self):
        store = Store(TEXT, 72)
        self.assertEqual(store.journal(), start(72, TEXT))
        self.assertEqual(restore(store.journal()).journal(), start(72, TEXT))

    def test_questions_and_refused_calls_are_not_told(self):
        both = Both(TEXT, 128)
        both.do("create", "r", 1)
        before = both.store.journal()
        for name, arguments in (
            ("value", (1, 1, "a")), ("values", (1, 1, "")), ("length", (1, 1, "l")), ("kind", (1,)), ("numbers", ()), ("next_number", ()),
            ("size", ()), ("used", ()), ("held", ()),
        ):
            both.told(name, *arguments)
        for name in ("blocks", "image", "journal"):
            getattr(both.store, name)()
        for name, arguments in (("put", (1, "a", 99999)), ("create", ("q", 1)), ("step", (1,)), ("back", ()), ("pop", (1, "l"))):
            both.refused(name, *arguments)
        self.assertEqual(both.store.journal(), before)

    def test_calls_that_change_nothing_are_told(self):
        both = Both(TEXT, 128)
        both.do("create", "r", 1)
        both.do("device")
        journal = both.store.journal()
        for name, arguments in (
            ("step", (1,)), ("abort", (1,)), ("push_together", ()), ("put", (1, "a", -3)), ("select", (1, "h", None)), ("checkpoint", ()),
            ("commit", ()),
        ):
            both.do(name, *arguments)
            journal += write_entry(name, arguments)
            self.assertEqual(both.store.journal(), journal)
        both.compare_restored()

    def test_a_step_that_is_out_of_range_is_told(self):
        both = Both(TEXT, 128)
        for name, arguments in (
            ("create", ("r", 1)), ("device", ()), ("lease", (1, 1, "a", True)), ("begin", (1, "add", 1, "a", 40000, None, None)), ("step", (1,)),
        ):
            both.do(name, *arguments)
        before = both.store.journal()
        self.assertEqual(both.refused("step", 1), "OutOfRange")
        self.assertEqual(both.store.journal(), before + write_entry("step", (1,)))
        again = both.compare_restored()
        self.assertEqual((again.busy(1), again.step(1)), (False, ("idle",)))
        # Cut ahead of it, the device still works.
        again = restore(before)
        self.assertTrue(again.busy(1))
        with self.assertRaises(OutOfRange):
            again.step(1)
        self.assertEqual(again.journal(), before + write_entry("step", (1,)))


CALLS = (
    ("create", ("r", 1)), ("create", ("r", 2)), ("put", (1, "a", -300)), ("select", (1, "h", "s")), ("put", (1, "h.s.y", -2 ** 31)),
    ("push", (1, "l", 200)), ("push", (1, "l", None)), ("put", (2, "to", 1)), ("checkpoint", ()), ("device", ()), ("device", ()),
    ("lease", (1, 1, "h.s.y", True)), ("lease", (2, 1, "l", False)), ("begin", (1, "exchange", 1, "h.s.y", -2, None, None)),
    ("step", (1,)), ("step", (1,)), ("begin", (2, "get", 1, "l.0", None, None, None)), ("step", (1,)), ("step", (1,)), ("step", (1,)),
    ("push_together", ()), ("step", (1,)), ("grow", (264,)), ("create", ("r", 1)), ("step", (2,)), ("step", (2,)), ("step", (1,)),
    ("delete", (2,)), ("step", (1,)), ("step", (1,)), ("release", (2,)), ("release", (1,)), ("upgrade", (1, 2)), ("pop", (1, "l")),
    ("back", ()), ("select", (1, "h", None)), ("checkpoint", ()), ("commit", ()), ("lease", (2, 2, "to", True)),
    ("begin", (2, "set", 2, "to", 0, None, None)), ("step", (2,)), ("step", (2,)), ("abort", (2,)), ("lease", (1, 1, "a", True)),
    ("lease", (1, 2, "b", True)), ("begin", (1, "copy", 1, "a", None, 2, "b")), ("step", (1,)), ("step", (1,)), ("step", (1,)),
)


class Cutting(unittest.TestCase):
    def test_at_each_place(self):
        """Restored from each cut, a store is what it was then, and goes on by the same calls to the same end."""
        store, schema = Store(TEXT, 256), parse_schema(TEXT)
        states, ends = [inner(store, schema, 2)], [len(store.journal())]
        for name, arguments in CALLS:
            getattr(store, name)(*arguments)
            states.append(inner(store, schema, 2))
            ends.append(len(store.journal()))
        journal = store.journal()
        for cut in range(len(journal) + 1):
            whole = [place for place, end in enumerate(ends) if end <= cut]
            if not whole:
                with self.assertRaises(BadJournal) as caught:
                    restore(journal[:cut])
                self.assertEqual(caught.exception.place, 0)
                continue
            again = restore(journal[:cut])
            if cut - ends[whole[-1]] in (0, 1, 5):
                self.assertEqual(inner(again, schema, 2), states[whole[-1]], cut)
            if cut == ends[whole[-1]]:
                for name, arguments in CALLS[whole[-1]:]:
                    getattr(again, name)(*arguments)
                self.assertEqual(inner(again, schema, 2), states[-1], cut)

    def test_what_goes_on_is_what_went_on(self):
        both = Both(TEXT, 256)
        for name, arguments in CALLS[:18]:
            both.do(name, *arguments)
        again = restore(both.store.journal())
        self.assertEqual([again.busy(1), again.busy(2), again.held()], [True, True, [1, 2]])
        for device in (1, 2, 1, 1, 1, 1, 1, 1):
            self.assertEqual(outcome(again.step, device), both.call("step", device))
        self.assertEqual(again.journal(), both.store.journal())
        self.assertEqual(outcome(again.release, 1), both.call("release", 1))
        self.assertEqual(again.value(1, 1, "h.s.y"), -2)

    def test_the_journal_of_a_restored_store_has_no_numbers_of_a_cut_entry(self):
        store = Store(TEXT, 64)
        store.create("r", 1)
        whole = store.journal()
        store.device()
        for cut in range(len(whole), len(store.journal())):
            again = restore(store.journal()[:cut])
            self.assertEqual(again.journal(), whole)
            self.assertEqual(again.device(), 1)
            self.assertEqual(again.journal(), store.journal())


if __name__ == "__main__":
    unittest.main()
