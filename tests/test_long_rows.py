"""The promise of the document: for schemas and rows of calls at random, with devices in the middle of works, cuts and
restarts, every answer and every refusal of a store is that of a table; every image is right; every journal tells its store."""

import random
import unittest

from both import Both, inner, outcome
from recstore.errors import BadSchema
from recstore.layouts import layout, types
from recstore.schema import parse_schema
from recstore.store import open_image, restore

WORDS = ("u8", "u16", "u32", "i8", "i16", "i32")
SCHEMA = """
struct s { x: u8; y: i16 big; } struct t { z: bits u16 { a 3, b 5 }; to: ref q; } struct v { o: one of s, t; w: u32; }
record q 1 { a: u8 = 5; l: list of u8; }
record r 1 { a: i8 = -3; o: one of s, v; m: list of t; l: list of i8; to: ref r; }
record r 2 { b was a: i16; o: one of s, v, t; n was m: list of t; c: u32 big = 70000; l: list of i32; to: ref r; }
record r 3 { o: one of s, v, t; d was b: i32; l: list of i32; n: list of t; a: u8 = 9; to: ref r; }
"""


class Chance:
    """Schemas and calls at random."""

    def __init__(self, seed):
        self.random = random.Random(seed)
        self.pick = self.random.choice
        self.below = self.random.randrange

    def often(self, percent):
        return self.below(100) < percent

    def word(self):
        return self.pick(WORDS) + (" big" if self.often(30) else "")

    def bits(self):
        size = self.pick((8, 16, 32))
        widths = [1 + self.below(size // 3) for _ in range(1 + self.below(3))]
        slots = ", ".join(f"{name} {width}" for name, width in zip("xyz", widths))
        return f"bits u{size}{' big' if self.often(30) else ''} {{ {slots} }}"

    def kind(self, structs, names, in_record):
        """A type, with an initial value perhaps."""
        item = self.pick(structs + [self.word(), self.word()])
        choice = self.below(12)
        if choice < 3:
            return self.word() + (f" = {self.below(100)}" if in_record and self.often(40) else "")
        if choice < 5:
            return self.bits()
        if choice < 8 and structs:
            return "one of " + ", ".join(self.random.sample(structs, 1 + self.below(len(structs))))
        if choice < 9:
            return "ref " + self.pick(names)
        if choice < 10:
            return f"{1 + self.below(3)} of {item}"
        return "list of " + item if in_record else item

    def newer(self, fields, structs, names):
        """The fields of the next version: some are gone, some have other names, some are new, all lie elsewhere."""
        found = []
        for name, _, kind in fields:
            other = "n" + name if self.often(20) else name
            if self.often(85) and len(other) < 5:
                found.append((other, f" was {name}" if other != name else "", kind))
        taken = [field[0] for field in found]
        found += [(name, "", self.kind(structs, names, True)) for name in "ghi"[:self.below(3)] if name not in taken]
        self.random.shuffle(found)
        return found or [("k", "", "u8")]

    def text(self):
        """The text of a schema, which may be refused."""
        names, structs, found = ["r", "q"][:1 + self.below(2)], [], []
        for name in "stv"[:self.below(4)]:
            fields = [(field, "", self.kind(structs, names, False)) for field in "abc"[:1 + self.below(3)]]
            found.append(("struct " + name, fields))
            structs.append(name)
        for name in names:
            fields = [(field, "", self.kind(structs, names, True)) for field in "abcdef"[:1 + self.below(6)]]
            for version in range(1, 2 + self.below(3)):
                found.append((f"record {name} {version}", fields))
                fields = self.newer(fields, structs, names)
        return "".join(f"{heading} {{ {' '.join(f'{n}{w}: {k};' for n, w, k in fields)} }}\n" for heading, fields in found)

    def schema(self):
        while True:
            text = self.text()
            try:
                parse_schema(text)
                return text
            except BadSchema:
                pass

    def integer(self):
        return self.pick((0, 1, -1, 2, 3, 5, 100, 127, 128, 255, 256, -128, -129, 32767, 65535, 2 ** 31, -2 ** 31, 2 ** 32 - 1, 2 ** 32,
                          self.below(600) - 300, self.below(8)))


class Row:
    """A row of calls of a store and a table."""

    def __init__(self, seed, text):
        self.chance = Chance(seed)
        self.pick, self.below, self.often = self.chance.pick, self.chance.below, self.chance.often
        self.both = Both(text or self.chance.schema(), self.pick((64, 96, 128, 200, 256, 400, 1024)))
        self.states = []

    def shape(self, number):
        return layout(self.both.schema, *self.both.store.kind(number))

    def is_there(self, number):
        return number in self.both.store.numbers()

    def record(self):
        numbers = self.both.store.numbers()
        return self.pick(numbers) if numbers and self.often(97) else self.pick((0, 1, 2, 3, 99))

    def paths(self, number, role=None):
        """The paths of the fields of a record, of those with this role."""
        if not self.is_there(number):
            return ["a"]
        _, _, fields, lists = self.shape(number)
        found = [field[0] for field in fields if role in (None, field[7])]
        for name, _, _, item in lists:
            for index in range(self.both.store.length(number, self.both.store.kind(number)[1], name)):
                found += [f"{name}.{index}" + ("." + field[0] if field[0] else "") for field in item if role in (None, field[7])]
        return found or ["a"]

    def path(self, number, role=None):
        return self.pick(("", "x", "a", "a.0", "b..c")) if self.often(2) else self.pick(self.paths(number, role))

    def list_name(self, number):
        names = [entry[0] for entry in self.shape(number)[3]] if self.is_there(number) else []
        return self.pick(names) if names and self.often(95) else "a"

    def device(self):
        return self.below(self.both.devices) + 1 if self.both.devices and self.often(97) else self.below(self.both.devices + 2)

    def busy_device(self):
        busy = [device for device in range(1, self.both.devices + 1) if self.both.store.busy(device)]
        return self.pick(busy) if busy and self.often(90) else self.device()

    def leased_field(self, device):
        """(number, path), of a lease of the device if there is one."""
        held = [told for told in self.both.store.bench.leases.current.values() if told[0] == device]
        number = self.pick(held)[1] if held and self.often(90) else self.record()
        return number, self.path(number)

    def lease(self):
        number = self.record()
        pieces = self.path(number).split(".")
        path = ".".join(pieces[:self.below(len(pieces) + 1)]) if self.often(60) else ".".join(pieces)
        return "lease", self.device(), number, path, self.often(65)

    def begin(self):
        device, kind = self.device(), self.pick(("get", "set", "add", "exchange", "copy"))
        number, path = self.leased_field(device)
        other, other_path = self.leased_field(device) if kind == "copy" else (None, None)
        value = None if kind in ("get", "copy") else self.pick((self.chance.integer(), self.below(5), self.record()))
        return "begin", device, kind, number, path, value, other, other_path

    def next_call(self):
        number, store = self.record(), self.both.store
        names = list(dict(types(self.both.schema)))
        calls = {
            "create": (8, lambda: ("create", self.pick(names), 1 + self.below(3))),
            "put": (10, lambda: ("put", number, self.path(number), self.pick((self.chance.integer(), self.record())))),
            "select": (7, lambda: ("select", number, self.path(number, "tag"), self.pick((None, "s", "t", "v")))),
            "push": (9, lambda: ("push", number, self.list_name(number), self.pick((None, None, 3, self.chance.integer())))),
            "pop": (5, lambda: ("pop", number, self.list_name(number))),
            "delete": (2, lambda: ("delete", number)),
            "upgrade": (3, lambda: ("upgrade", number, 1 + self.below(4))),
            "grow": (1, lambda: ("grow", self.pick((8, store.size() + 8, store.size() + 16, 1032, store.size() + 3)))),
            "push_together": (2, lambda: ("push_together",)),
            "checkpoint": (2, lambda: ("checkpoint",)), "back": (1, lambda: ("back",)), "commit": (1, lambda: ("commit",)),
            "device": (2 if self.both.devices else 40, lambda: ("device",)),
            "lease": (9, self.lease),
            "release": (2, lambda: ("release", self.pick(store.held() + [0, 1]))),
            "begin": (16, self.begin),
            "step": (30, lambda: ("step", self.busy_device())),
            "abort": (2, lambda: ("abort", self.device())),
        }
        name = self.chance.random.choices(list(calls), [weight for weight, _ in calls.values()])[0]
        return calls[name][1]()

    def go(self, steps):
        for turn in range(steps):
            call = self.next_call()
            for _ in range(1 + self.below(5) if call[0] in ("step", "push") else 1):
                self.both.call(*call)
            if turn % 10 == 0:
                self.both.compare()
            if turn % 50 == 0:
                self.open()
                self.states.append((inner(self.both.store, self.both.schema, self.both.devices), self.both.devices))
        self.both.compare()
        self.both.compare_restored()

    def open(self):
        """The store is opened by its image, if it gives one."""
        told, image = outcome(self.both.store.image)
        if told == "told":
            opened = open_image(self.both.text, image)
            assert opened.image() == image and opened.blocks() == self.both.store.blocks()

    def cut(self):
        """What a journal tells that is cut somewhere is as it was then."""
        journal = self.both.store.journal()
        for state, devices in self.states[1:]:
            end = len(state["journal"])
            assert inner(restore(journal[:end]), self.both.schema, devices) == state
            assert inner(restore(journal[:end + 1]), self.both.schema, devices) == state


class Rows(unittest.TestCase):
    def test_one_schema(self):
        for seed in range(12):
            with self.subTest(seed=seed):
                row = Row(seed, SCHEMA)
                row.go(300)
                row.cut()

    def test_schemas_at_random(self):
        for seed in range(40):
            with self.subTest(seed=seed):
                row = Row(seed, None)
                row.go(150)
                row.cut()


if __name__ == "__main__":
    unittest.main()
