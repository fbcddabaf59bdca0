"""y3, y4: which fields can be active together, whether their words are apart, and padding."""

import itertools
import unittest

from recstore.layouts import layout, padding, struct_layout, together

U8, U16, U32 = ("word", 1, False, False), ("word", 2, False, False), ("word", 4, False, True)


def field(name, kind):
    return name, None, kind, None


def struct(name, *fields):
    return "struct", name, fields


def of_record(*fields, structs=()):
    return layout(structs + (("record", "r", 1, fields),), "r", 1)


def under(*conditions):
    """A scalar field with these conditions; nothing else of it counts."""
    return "f", 0, 1, False, 0, 8, False, "number", conditions


BYTE = struct("byte", field("v", U8))
POINT = struct("point", field("x", U8), field("y", U16))
WIDE = struct("wide", field("w", U32), field("b", U16))
GAPS = struct("gaps", field("a", U8), field("w", U32), field("c", U8))
THREE = struct("three", field("n", ("row", 3, U8)))
ARC = struct("arc", field("k", U16), field("u", ("one", ("point", "three"))))
NEST = struct("nest", field("e", U8), field("h", ("one", ("arc", "byte"))))
STRUCTS = (BYTE, POINT, WIDE, GAPS, THREE, ARC, NEST)


class ActiveTogether(unittest.TestCase):
    def check(self, one, other, expected):
        self.assertEqual(together(one, other), expected, (one, other))
        self.assertEqual(together(other, one), expected, (other, one))

    def test_fields_without_conditions(self):
        self.check(under(), under(), True)

    def test_a_field_without_conditions_and_one_with(self):
        self.check(under(), under(("t", 1)), True)
        self.check(under(), under(("t", 1), ("t.a.u", 2)), True)

    def test_two_alternatives_of_one_tag(self):
        self.check(under(("t", 1)), under(("t", 2)), False)
        self.check(under(("t", 3)), under(("t", 2)), False)

    def test_one_alternative_of_one_tag(self):
        self.check(under(("t", 1)), under(("t", 1)), True)
        self.check(under(("t", 2)), under(("t", 2)), True)

    def test_different_tags(self):
        self.check(under(("t", 1)), under(("u", 1)), True)
        self.check(under(("t", 1)), under(("u", 2)), True)
        self.check(under(("r.0.t", 1)), under(("r.1.t", 2)), True)
        self.check(under(("t", 1)), under(("t.a.t", 2)), True)

    def test_nested_tags(self):
        low, high = ("t", 1), ("t", 2)
        first, second = ("t.a.u", 1), ("t.a.u", 2)
        self.check(under(low, first), under(low, second), False)
        self.check(under(low, first), under(low, first), True)
        self.check(under(low, first), under(low), True)
        self.check(under(low, first), under(high), False)
        self.check(under(low, second), under(high, ("t.b.u", 2)), False)
        self.check(under(low, second), under(low, ("t.a.v", 1)), True)

    def test_one_pair_of_conditions_is_enough(self):
        self.check(under(("a", 1), ("b", 2), ("c", 3)), under(("a", 1), ("b", 2), ("c", 4)), False)
        self.check(under(("a", 1), ("b", 2), ("c", 3)), under(("a", 2), ("b", 2), ("c", 3)), False)
        self.check(under(("a", 1), ("b", 2), ("c", 3)), under(("a", 1), ("b", 2), ("c", 3)), True)
        self.check(under(("a", 1), ("b", 2)), under(("b", 1)), False)
        self.check(under(("a", 1), ("b", 2)), under(("b", 2)), True)
        self.check(under(("a", 1), ("b", 2)), under(("b", 2), ("a", 2)), False)

    def test_fields_of_a_layout(self):
        unions = (field("u", ("one", ("point", "byte"))), field("v", ("one", ("byte", "nest"))), field("z", U8))
        fields = {item[0]: item for item in of_record(*unions, structs=STRUCTS)[2]}
        for one, other, expected in (
            ("u", "u.point.x", True), ("u", "z", True), ("u", "v", True), ("u.point.x", "u.point.y", True),
            ("u.point.x", "u.byte.v", False), ("u.point.y", "u.byte.v", False), ("u.byte.v", "z", True),
            ("u.point.x", "v.byte.v", True), ("u.byte.v", "v.nest.e", True), ("v.byte.v", "v.nest.e", False),
            ("v.byte.v", "v.nest.h", False), ("v.byte.v", "v.nest.h.byte.v", False), ("v", "v.nest.h", True),
            ("v.nest.e", "v.nest.h.arc.k", True), ("v.nest.h.arc.k", "v.nest.h.byte.v", False),
            ("v.nest.h.arc.u.point.x", "v.nest.h.arc.u.point.y", True),
            ("v.nest.h.arc.u.point.x", "v.nest.h.arc.u.three.n.0", False),
            ("v.nest.h.arc.u.three.n.2", "v.nest.h.byte.v", False),
            ("v.nest.h.arc.u.three.n.2", "v.byte.v", False), ("v.nest.h.arc.u.three.n.2", "u.byte.v", True),
        ):
            self.check(fields[one], fields[other], expected)


class Apart(unittest.TestCase):
    """y4: words of fields that can be active together are one word or have no byte in common."""

    RECORDS = (
        (field("a", U8), field("b", ("bits", 2, True, (("p", 3), ("q", 13)))), field("c", U32)),
        (field("a", U8), field("n", ("row", 2, ("struct", "arc"))), field("z", U8)),
        (field("u", ("one", ("wide", "nest", "three"))), field("v", ("one", ("byte", "point"))), field("z", U8)),
        (field("a", U8), field("s", ("struct", "nest")), field("to", ("ref", "r")), field("g", ("struct", "gaps"))),
        (field("a", U8), field("l", ("list", ("struct", "nest"))), field("b", U8), field("m", ("list", U8)),
         field("c", ("one", ("gaps",)))),
    )

    def check(self, words):
        for (one, first), (other, second) in itertools.combinations(words, 2):
            if one is None or other is None or together(one, other):
                same = first == second
                apart = first[0] + first[1] <= second[0] or second[0] + second[1] <= first[0]
                self.assertTrue(same != apart, (one, other, first, second))

    def test_words_and_headers_of_records(self):
        for fields in self.RECORDS:
            size, _, scalars, lists = of_record(*fields, structs=STRUCTS)
            words = [(item, (item[1], item[2])) for item in scalars]
            words += [(None, (header[1], 4)) for header in lists]
            self.check(words)
            self.assertTrue(all(0 <= at and at + many <= size for _, (at, many) in words))

    def test_words_of_structs_and_of_items(self):
        for name in [item[1] for item in STRUCTS]:
            size, _, scalars, _ = struct_layout(STRUCTS, name)
            self.check([(item, (item[1], item[2])) for item in scalars])
            self.assertTrue(all(item[1] + item[2] <= size for item in scalars))
            listed = of_record(field("l", ("list", ("struct", name))), structs=STRUCTS)[3][0]
            self.assertEqual((listed[2], listed[3]), (size, scalars))


class Padding(unittest.TestCase):
    def check(self, expected, *fields):
        self.assertEqual(padding(of_record(*fields, structs=STRUCTS)), expected)

    def test_none(self):
        self.check([], field("a", U8))
        self.check([], field("a", U32), field("b", U16), field("c", U8), field("d", U8))
        self.check([], field("a", ("row", 6, U16)))
        self.check([], field("a", ("ref", "r")))

    def test_between_fields(self):
        self.check([1], field("a", U8), field("b", U16))
        self.check([1, 2, 3], field("a", U8), field("b", U32))
        self.check([2, 3], field("a", U16), field("b", ("ref", "r")))
        self.check([1, 5, 6, 7], field("a", U8), field("b", U16), field("c", U8), field("d", U32))

    def test_at_the_end(self):
        self.check([3], field("a", U16), field("b", U8))
        self.check([5, 6, 7], field("a", U32), field("b", U8))
        self.check([6, 7], field("a", U32), field("b", U16))
        self.check([1, 2, 3, 9, 10, 11], field("a", U8), field("b", U32), field("c", U8))

    def test_bits_that_belong_to_no_bit_field_are_not_padding(self):
        self.check([], field("a", ("bits", 4, False, (("p", 1),))))
        self.check([1], field("a", U8), field("b", ("bits", 2, True, (("p", 1), ("q", 2)))))

    def test_in_structs_and_rows(self):
        self.check([1, 2, 3, 9, 10, 11], field("s", ("struct", "gaps")))
        self.check([1, 5], field("n", ("row", 2, ("struct", "point"))))
        self.check([6, 7, 14, 15], field("n", ("row", 2, ("struct", "wide"))))
        self.check([1, 3], field("a", U8), field("s", ("struct", "point")))

    def test_in_unions(self):
        self.check([], field("u", ("one", ("byte", "three"))))
        self.check([1, 3], field("u", ("one", ("point",))))
        self.check([1, 2, 3, 10, 11], field("u", ("one", ("wide",))))
        self.check([1, 2, 3, 10, 11], field("u", ("one", ("wide", "byte"))))

    def test_what_lies_under_a_field_of_any_alternative_is_not_padding(self):
        self.check([1], field("u", ("one", ("point", "three"))))
        self.check([1, 2, 3, 13, 14, 15], field("u", ("one", ("gaps", "wide"))))
        self.check([1, 2, 3, 7, 13, 14, 15], field("u", ("one", ("gaps", "three"))))

    def test_the_end_of_a_union(self):
        structs = (THREE, struct("even", field("w", U16)))
        union = field("u", ("one", ("even", "three")))
        self.assertEqual(padding(of_record(union, structs=structs)), [1, 5])
        self.assertEqual(padding(of_record(union, field("z", U8), structs=structs)), [1, 5, 7])

    def test_nested_unions(self):
        self.check([3], field("s", ("struct", "arc")), field("z", U16))
        self.check([1, 3, 7], field("a", U8), field("h", ("one", ("arc",))))

    def test_list_headers_are_not_padding(self):
        self.check([], field("l", ("list", U8)))
        self.check([], field("l", ("list", ("struct", "gaps"))), field("m", ("list", U32)))
        self.check([1], field("a", U8), field("l", ("list", U32)))
        self.check([1, 7], field("a", U8), field("l", ("list", U8)), field("z", U8))
        self.check([1, 6, 7], field("a", U8), field("l", ("list", U8)), field("z", U32))
        self.check([1, 2, 3, 10, 11, 17, 23], field("u", ("one", ("wide",))), field("l", ("list", U8)),
                   field("z", U8), field("m", ("list", U16)), field("y", U8))

    def test_it_is_new_each_time(self):
        told = of_record(field("a", U8), field("b", U16))
        padding(told).append(5)
        self.assertEqual(padding(told), [1])

    def test_layouts_of_structs(self):
        self.assertEqual(padding(struct_layout(STRUCTS, "gaps")), [1, 2, 3, 9, 10, 11])
        self.assertEqual(padding(struct_layout(STRUCTS, "byte")), [])


if __name__ == "__main__":
    unittest.main()
