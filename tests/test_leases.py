"""e1, e2: which words a path covers, and which leased words conflict."""

import unittest

from recstore.blocks import empty
from recstore.errors import BadField
from recstore.layouts import layout
from recstore.leases import conflicts, covered
from recstore.lists import push
from recstore.records import delete, new_record, select, upgrade
from recstore.schema import parse_schema

SHIP = parse_schema(
    "struct s { x: u8; y: i16 big; } struct t { w: u32; z: bits u16 { p 3, q 5 }; } struct v { k: u8; o: one of s, t; }"
    "struct n { k: u8; o: one of s; }"
    "record ship 1 { a: u8; b: bits u16 big { c 1, d 6, e 9 }; row: 2 of s; hold: one of v, s; l: list of u16;"
    " m: list of n; next: ref ship; }"
    "record bare 1 { l: list of u8; m: list of s; }"
)


def made(*names):
    data = empty(512)
    for number, name in enumerate(names, 1):
        new_record(SHIP, data, name, 1, number)
    return data


class Covered(unittest.TestCase):
    def setUp(self):
        self.data = made("ship", "ship", "bare")

    def words(self, path, exclusive=True, number=1):
        return covered(SHIP, self.data, number, path, exclusive)

    def refused(self, reason, path, number=1):
        before = list(self.data)
        for exclusive in (True, False):
            with self.assertRaises(BadField) as caught:
                self.words(path, exclusive, number)
            self.assertEqual(caught.exception.reason, reason)
        self.assertEqual(self.data, before)

    def test_the_offsets_of_the_schema(self):
        shape = layout(SHIP, "ship", 1)
        places = {field[0]: field[1] for field in shape[2]}
        paths = ("a", "b.c", "row.0.x", "row.0.y", "row.1.x", "row.1.y", "hold", "hold.v.k", "hold.v.o", "hold.v.o.t.w", "hold.v.o.t.z.q")
        self.assertEqual([places[path] for path in paths], [0, 2, 4, 6, 8, 10, 12, 16, 20, 24, 28])
        self.assertEqual([places["hold.v.o.s.x"], places["hold.s.x"], places["hold.s.y"]], [24, 16, 18])
        self.assertEqual(([entry[1:3] for entry in shape[3]], places["next"]), ([(32, 2), (36, 8)], 40))

    def test_words(self):
        self.assertEqual(self.words("a"), (("", 0, 1, True),))
        self.assertEqual(self.words("a", False), (("", 0, 1, False),))
        self.assertEqual(self.words("next"), (("", 40, 4, True),))

    def test_bits_are_one_word(self):
        for path in ("b", "b.c", "b.d", "b.e"):
            self.assertEqual(self.words(path), (("", 2, 2, True),))
            self.assertEqual(self.words(path, False), (("", 2, 2, False),))

    def test_rows_and_structs(self):
        self.assertEqual(self.words("row"), (("", 4, 1, True), ("", 6, 2, True), ("", 8, 1, True), ("", 10, 2, True)))
        self.assertEqual(self.words("row.1", False), (("", 8, 1, False), ("", 10, 2, False)))
        self.assertEqual(self.words("row.0.y"), (("", 6, 2, True),))

    def test_a_tag_is_shared_always(self):
        for exclusive in (True, False):
            self.assertEqual(self.words("hold", exclusive), (("", 12, 1, False),))

    def test_alternatives(self):
        select(SHIP, self.data, 1, "hold", "s")
        self.assertEqual(self.words("hold"), (("", 12, 1, False), ("", 16, 1, True), ("", 18, 2, True)))
        self.assertEqual(self.words("hold.s"), (("", 12, 1, False), ("", 16, 1, True), ("", 18, 2, True)))
        self.assertEqual(self.words("hold.s.y"), (("", 12, 1, False), ("", 18, 2, True)))
        self.assertEqual(self.words("hold.s.y", False), (("", 12, 1, False), ("", 18, 2, False)))

    def test_alternatives_within_alternatives(self):
        select(SHIP, self.data, 1, "hold", "v")
        self.assertEqual(self.words("hold.v"), (("", 12, 1, False), ("", 16, 1, True), ("", 20, 1, False)))
        self.assertEqual(self.words("hold.v.o"), (("", 12, 1, False), ("", 20, 1, False)))
        select(SHIP, self.data, 1, "hold.v.o", "t")
        self.assertEqual(
            self.words("hold.v.o.t"), (("", 12, 1, False), ("", 20, 1, False), ("", 24, 4, True), ("", 28, 2, True)),
        )
        # Both tags, the outermost one first, and then the word of the bits.
        self.assertEqual(self.words("hold.v.o.t.z.q"), (("", 12, 1, False), ("", 20, 1, False), ("", 28, 2, True)))
        self.assertEqual(
            self.words("hold"),
            (("", 12, 1, False), ("", 16, 1, True), ("", 20, 1, False), ("", 24, 4, True), ("", 28, 2, True)),
        )

    def test_the_empty_path(self):
        headers = (("", 32, 4, False), ("", 36, 4, False))
        first = (("", 0, 1), ("", 2, 2), ("", 4, 1), ("", 6, 2), ("", 8, 1), ("", 10, 2))
        for exclusive in (True, False):
            expected = headers + tuple(word + (exclusive,) for word in first) + (("", 12, 1, False), ("", 40, 4, exclusive))
            self.assertEqual(self.words("", exclusive), expected)

    def test_the_empty_path_covers_no_elements(self):
        before = self.words("")
        push(SHIP, self.data, 1, "l", 5)
        push(SHIP, self.data, 1, "m", None)
        self.assertEqual(self.words(""), before)

    def test_a_record_of_lists_alone(self):
        self.assertEqual(self.words("", True, 3), (("", 0, 4, False), ("", 4, 4, False)))

    def test_lists_without_elements(self):
        for exclusive in (True, False):
            self.assertEqual(self.words("l", exclusive), (("", 32, 4, False),))
            self.assertEqual(self.words("m", exclusive), (("", 36, 4, False),))

    def test_lists_of_words(self):
        for number in (5, 6, 7):
            push(SHIP, self.data, 1, "l", number)
        header = (("", 32, 4, False),)
        self.assertEqual(self.words("l"), header + (("l", 0, 2, True), ("l", 2, 2, True), ("l", 4, 2, True)))
        self.assertEqual(self.words("l.2"), header + (("l", 4, 2, True),))
        self.assertEqual(self.words("l.0", False), header + (("l", 0, 2, False),))

    def test_lists_of_structs(self):
        for _ in range(3):
            push(SHIP, self.data, 1, "m", None)
        select(SHIP, self.data, 1, "m.1.o", "s")
        header = (("", 36, 4, False),)
        self.assertEqual(self.words("m.0"), header + (("m", 0, 1, True), ("m", 2, 1, False)))
        self.assertEqual(
            self.words("m.1", False), header + (("m", 8, 1, False), ("m", 10, 1, False), ("m", 12, 1, False), ("m", 14, 2, False)),
        )
        self.assertEqual(self.words("m.1.o.s.y"), header + (("m", 10, 1, False), ("m", 14, 2, True)))
        self.assertEqual(self.words("m.2.k"), header + (("m", 16, 1, True),))
        self.assertEqual(
            [word[:2] for word in self.words("m")],
            [("", 36), ("m", 0), ("m", 2), ("m", 8), ("m", 10), ("m", 12), ("m", 14), ("m", 16), ("m", 18)],
        )

    def test_each_word_once(self):
        select(SHIP, self.data, 1, "hold", "v")
        select(SHIP, self.data, 1, "hold.v.o", "t")
        push(SHIP, self.data, 1, "m", None)
        for path in ("", "b", "hold", "m", "m.0"):
            words = [word[:3] for word in self.words(path)]
            self.assertEqual(len(words), len(set(words)))

    def test_no_such_field(self):
        push(SHIP, self.data, 1, "m", None)
        for path in (
            "x", "a.x", "b.x", "row.2", "row.0.z", "hold.t", "hold.v.o.v", "l.", "l.x", "l.00", "m.0.x", "m.0.o.v", ".", "a.", ".a",
            "row..x", "m..k", "m.k", "m.9.x", "ships",
        ):
            self.refused("no such field", path)

    def test_no_such_element(self):
        push(SHIP, self.data, 1, "m", None)
        for path in ("l.0", "l.59", "m.1", "m.1.k", "m.1.o.s"):
            self.refused("no such element", path)

    def test_not_active(self):
        push(SHIP, self.data, 1, "m", None)
        for path in ("hold.v", "hold.s.x", "hold.v.o.t", "m.0.o.s", "m.0.o.s.x"):
            self.refused("not active", path)
        select(SHIP, self.data, 1, "hold", "v")
        for path in ("hold.s", "hold.v.o.s.x"):
            self.refused("not active", path)
        self.assertEqual(self.words("hold.v.k"), (("", 12, 1, False), ("", 16, 1, True)))

    def test_wherever_blocks_are(self):
        push(SHIP, self.data, 2, "l", 1)
        before = [self.words(path, True, 2) for path in ("", "l")]
        delete(SHIP, self.data, 1)
        push(SHIP, self.data, 2, "m", None)
        self.assertEqual([self.words(path, True, 2) for path in ("", "l")], before)

    def test_nothing_changes(self):
        before = list(self.data)
        for path in ("", "a", "l", "row"):
            self.words(path)
        self.assertEqual(self.data, before)


class Stored(unittest.TestCase):
    def test_the_version_that_is_stored(self):
        schema = parse_schema("record r 1 { a: u8; b: u16; } record r 2 { c was b: u32; a: u16; }")
        data = empty(64)
        new_record(schema, data, "r", 1, 1)
        self.assertEqual(covered(schema, data, 1, "", True), (("", 0, 1, True), ("", 2, 2, True)))
        with self.assertRaises(BadField) as caught:
            covered(schema, data, 1, "c", True)
        self.assertEqual(caught.exception.reason, "no such field")
        upgrade(schema, data, 1, 2)
        self.assertEqual(covered(schema, data, 1, "c", True), (("", 0, 4, True),))
        self.assertEqual(covered(schema, data, 1, "", False), (("", 0, 4, False), ("", 4, 2, False)))


class Conflicts(unittest.TestCase):
    word = ("", 4, 2)

    def test_the_same_word(self):
        for mine in (True, False):
            for held in (True, False):
                told = conflicts(7, (self.word + (mine,),), [(7, (self.word + (held,),))])
                self.assertIs(told, mine or held)

    def test_other_words_lists_and_records(self):
        for number, word in ((7, ("", 6, 2)), (7, ("", 0, 2)), (7, ("l", 4, 2)), (8, self.word)):
            self.assertIs(conflicts(7, (self.word + (True,),), [(number, (word + (True,),))]), False)
        self.assertIs(conflicts(7, (("l", 4, 2, True),), [(7, (("m", 4, 2, True),))]), False)
        self.assertIs(conflicts(7, (("l", 4, 2, True),), [(7, (("l", 4, 2, False),))]), True)

    def test_nothing_held(self):
        self.assertIs(conflicts(7, (self.word + (True,),), []), False)
        self.assertIs(conflicts(7, (self.word + (True,),), [(7, ())]), False)
        self.assertIs(conflicts(7, (), [(7, (self.word + (True,),))]), False)

    def test_one_of_many(self):
        mine = (("", 0, 1, False), ("l", 0, 4, True), ("", 2, 2, False))
        held = [(1, (("l", 0, 4, True),)), (7, (("", 0, 1, False), ("l", 4, 4, True))), (7, (("", 2, 2, False),))]
        self.assertIs(conflicts(7, mine, held), False)
        self.assertIs(conflicts(1, mine, held), True)
        self.assertIs(conflicts(7, mine, held + [(7, (("", 9, 1, True), ("", 2, 2, True)))]), True)
        self.assertIs(conflicts(7, mine[1:2], held + [(7, (("l", 0, 4, False),))]), True)

    def test_of_what_is_covered(self):
        data = made("ship")
        select(SHIP, data, 1, "hold", "v")
        push(SHIP, data, 1, "l", 5)
        push(SHIP, data, 1, "l", 5)
        for one, other, together in (
            ("a", "b", True), ("b.c", "b.d", False), ("", "a", False), ("", "l", True), ("l", "l.0", False), ("l.0", "l.1", True),
            ("hold", "hold.v.o", True), ("hold.v.k", "hold.v", False), ("row", "row.0.y", False), ("row.0", "row.1", True),
        ):
            words = [covered(SHIP, data, 1, path, True) for path in (one, other)]
            self.assertIs(conflicts(1, words[0], [(1, words[1])]), not together, (one, other))
            self.assertIs(conflicts(1, words[1], [(1, words[0])]), not together, (one, other))
            shared = [covered(SHIP, data, 1, path, False) for path in (one, other)]
            self.assertIs(conflicts(1, shared[0], [(1, shared[1])]), False)
            self.assertIs(conflicts(1, shared[0], [(1, words[1])]), not together, (one, other))


if __name__ == "__main__":
    unittest.main()
