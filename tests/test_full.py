"""r7, b2: a creation, push or upgrade is refused by Full exactly if the bytes are too many, however the free blocks lie."""

import unittest

from both import Both
from recstore.layouts import layout

TEXT = """
struct s { x: u32; y: u16; }
record a 1 { x: u8; l: list of u8; }
record a 2 { x: u32; l: list of u32; m: list of s; z: 4 of u32; }
record b 1 { x: 6 of u32; m: list of s; }
record c 1 { x: u8; }
record c 2 { y: u8; }
"""


def block_bytes(size):
    return 8 + (size + 7) // 8 * 8


class Rows(unittest.TestCase):
    def setUp(self):
        self.state = 5

    def pick(self, many):
        self.state = (self.state * 1103515245 + 12345) % 2 ** 31
        return self.state // 65536 % many

    def taken(self, name, version, many):
        """The bytes of the blocks of a record whose lists have so many elements."""
        shape = layout(self.both.schema, name, version)
        lists = [block_bytes(count * entry[2]) for entry, count in zip(shape[3], many) if count]
        return block_bytes(shape[0]) + sum(lists)

    def counts(self, number, version):
        shape = layout(self.both.schema, self.both.told("kind", number)[0], version)
        return [self.both.told("length", number, version, entry[0]) for entry in shape[3]]

    def now(self, number):
        name, stored = self.both.told("kind", number)
        return self.taken(name, stored, self.counts(number, stored))

    def check(self, change, name, *arguments):
        """A call that needs so many bytes more than it gives back."""
        used, size = self.both.told("used"), self.both.told("size")
        self.assertEqual(used, sum(self.now(number) for number in self.both.told("numbers")))
        told = self.both.call(name, *arguments)
        self.assertEqual(told == ("Full", None), used + change > size, (name, arguments, used, change, size))
        self.seen.append((name, told[0], self.is_apart(change)))

    def is_apart(self, change):
        """Whether no free block alone is as long as what is needed."""
        return change > max([block[1] for block in self.both.store.blocks() if block[2] == 0], default=0)

    def step(self):
        numbers = self.both.told("numbers")
        choice = self.pick(12)
        if choice < 3 or not numbers:
            name, version = [("a", 1), ("a", 2), ("b", 1), ("c", 1)][self.pick(4)]
            return self.check(self.taken(name, version, [0, 0]), "create", name, version)
        number = numbers[self.pick(len(numbers))]
        name, stored = self.both.told("kind", number)
        shape = layout(self.both.schema, name, stored)
        many = self.counts(number, stored)
        if choice < 8 and shape[3]:
            index = self.pick(len(shape[3]))
            if many[index] < 60:
                more = [count + (place == index) for place, count in enumerate(many)]
                change = self.taken(name, stored, more) - self.taken(name, stored, many)
                self.check(change, "push", number, shape[3][index][0], None)
        elif choice < 9 and shape[3]:
            self.both.call("pop", number, shape[3][self.pick(len(shape[3]))][0])
        elif choice < 10 and (name, stored) in (("a", 1), ("c", 1)):
            change = self.taken(name, 2, self.counts(number, 2)) - self.now(number)
            self.check(change, "upgrade", number, 2)
        else:
            self.both.do("delete", number)

    def test_rows(self):
        self.seen = []
        for size in (64, 96, 200, 328, 512):
            self.both = Both(TEXT, size)
            for _ in range(260):
                self.step()
            self.both.compare()
        for name in ("create", "push", "upgrade"):
            for told in ("told", "Full"):
                self.assertGreater(len([each for each in self.seen if each[:2] == (name, told)]), 3, (name, told))
            self.assertIn((name, "told", True), self.seen)

    def test_to_the_last_unit(self):
        both = Both(TEXT, 64)
        for number in range(1, 5):
            both.do("create", "c", 1)
        self.assertEqual(both.told("used"), 64)
        self.assertEqual(both.refused("create", "c", 1), "Full")
        # As many units are given back as are taken.
        both.do("upgrade", 1, 2)
        both.do("delete", 2)
        both.do("delete", 4)
        self.assertEqual(both.store.blocks(), [(0, 16, 1, 2), (16, 16, 0, 0), (32, 16, 3, 1), (48, 16, 0, 0)])
        # The free blocks lie apart; 32 bytes are free in all, 40 are needed.
        self.assertEqual(both.refused("create", "b", 1), "Full")
        both.do("delete", 3)
        both.do("create", "b", 1)
        self.assertEqual(both.store.blocks(), [(0, 16, 1, 2), (16, 40, 5, 1), (56, 8, 0, 0)])

    def test_free_blocks_that_lie_apart(self):
        both = Both(TEXT, 72)
        for _ in range(4):
            both.do("create", "c", 1)
        both.do("delete", 1)
        both.do("delete", 3)
        # 16, 16 and 8 bytes are free.
        both.do("create", "b", 1)
        self.assertEqual(both.store.blocks(), [(0, 16, 2, 1), (16, 16, 4, 1), (32, 40, 5, 1)])

    def test_a_list_that_gives_its_own_block_back(self):
        both = Both("record r 1 { l: list of u8; } record q 1 { l: list of u32; }", 64)
        both.do("create", "r", 1)
        both.do("create", "q", 1)
        for _ in range(4):
            both.do("push", 2, "l", 1)
        # 56 bytes are used: 16, 16 and 24. The ninth element of the other list would need 16 more, of which 8 are free.
        self.assertEqual((both.told("used"), both.refused("push", 1, "l", 1)), (56, "Full"))
        for _ in range(2):
            both.do("pop", 2, "l")
        both.do("push", 1, "l", 1)
        self.assertEqual(both.told("used"), 64)
        for _ in range(7):
            both.do("push", 1, "l", 1)
        self.assertEqual(both.refused("push", 1, "l", 1), "Full")
        both.do("pop", 2, "l")
        self.assertEqual(both.refused("push", 1, "l", 1), "Full")
        both.do("pop", 2, "l")
        # Its own block of 16 bytes is given back for one of 24.
        both.do("push", 1, "l", 1)
        self.assertEqual(both.told("used"), 56)


if __name__ == "__main__":
    unittest.main()
