"""c3, c4, c6, c7, y1, y2: types, declarations and layouts, with every scalar field written out."""

import unittest

from recstore.layouts import declaration, layout, struct_layout, types

U8, I8 = ("word", 1, False, False), ("word", 1, True, False)
U16, I16 = ("word", 2, False, False), ("word", 2, True, False)
U16_BIG, I16_BIG = ("word", 2, False, True), ("word", 2, True, True)
U32, I32, I32_BIG = ("word", 4, False, False), ("word", 4, True, False), ("word", 4, True, True)


def field(name, kind, was=None, initial=None):
    return name, was, kind, initial


def struct(name, *fields):
    return "struct", name, fields


def record(name, version, *fields):
    return "record", name, version, fields


def number(path, offset, size, signed=False, big=False, under=()):
    """The scalar field of a whole word."""
    return path, offset, size, big, 0, 8 * size, signed, "number", under


def bit(path, offset, size, big, first, width, under=()):
    return path, offset, size, big, first, width, False, "number", under


def tag(path, offset, under=()):
    return path, offset, 1, False, 0, 8, False, "tag", under


def reference(path, offset, under=()):
    return path, offset, 4, False, 0, 32, False, "reference", under


def only(kind, *structs):
    """The layout of version 1 of a record type whose only field is f."""
    return layout(structs + (record("r", 1, field("f", kind)),), "r", 1)


def of_record(*fields):
    return layout((record("r", 1, *fields),), "r", 1)


POINT = struct("point", field("x", U8), field("y", I16))
POINT_AT = (number("x", 0, 1), number("y", 2, 2, signed=True))
WIDE = struct("wide", field("w", U32), field("b", U16))
BYTES = struct("three", field("a", U8), field("b", U8), field("c", I8))
ARC = struct("arc", field("k", U16), field("u", ("one", ("point", "three"))))


class Declarations(unittest.TestCase):
    A1, A2, A3 = (field("x", U8),), (field("x", U16), field("y", U8)), (field("z", U32, "x"),)
    B1, B2 = (field("x", I8, None, -3),), (field("q", I16, "x", -3),)
    SCHEMA = (
        record("b", 1, *B1), struct("a", field("s", U32)), record("a", 1, *A1), record("a", 2, *A2),
        record("b", 2, *B2), record("c1", 1, field("r", ("ref", "a"))), record("a", 3, *A3),
    )

    def test_types_are_in_the_order_of_their_first_versions(self):
        self.assertEqual(types(self.SCHEMA), [("b", 2), ("a", 3), ("c1", 1)])

    def test_types_of_schemas_without_records(self):
        self.assertEqual(types(()), [])
        self.assertEqual(types((POINT, WIDE)), [])

    def test_types_of_one_record(self):
        self.assertEqual(types((POINT, record("r", 1, field("f", U8)))), [("r", 1)])

    def test_types_with_all_versions(self):
        versions = tuple(record("r", version, field("f", U8)) for version in (1, 2, 3, 4))
        self.assertEqual(types(versions), [("r", 4)])

    def test_types_are_new_each_time(self):
        first = types(self.SCHEMA)
        first.append(("d", 1))
        self.assertEqual(types(self.SCHEMA), [("b", 2), ("a", 3), ("c1", 1)])

    def test_declarations(self):
        for name, version, fields in (
            ("a", 1, self.A1), ("a", 2, self.A2), ("a", 3, self.A3), ("b", 1, self.B1), ("b", 2, self.B2),
            ("c1", 1, (field("r", ("ref", "a")),)),
        ):
            with self.subTest(name=name, version=version):
                self.assertEqual(declaration(self.SCHEMA, name, version), fields)

    def test_layouts_of_versions(self):
        for name, version, expected in (
            ("a", 1, (1, 1, (number("x", 0, 1),), ())),
            ("a", 2, (4, 2, (number("x", 0, 2), number("y", 2, 1)), ())),
            ("a", 3, (4, 4, (number("z", 0, 4),), ())),
            ("b", 1, (1, 1, (number("x", 0, 1, signed=True),), ())),
            ("b", 2, (2, 2, (number("q", 0, 2, signed=True),), ())),
            ("c1", 1, (4, 4, (reference("r", 0),), ())),
        ):
            with self.subTest(name=name, version=version):
                self.assertEqual(layout(self.SCHEMA, name, version), expected)

    def test_a_struct_can_have_the_name_of_a_record_type(self):
        self.assertEqual(struct_layout(self.SCHEMA, "a"), (4, 4, (number("s", 0, 4),), ()))
        schema = (struct("n", field("s", U16)), record("n", 1, field("e", U8), field("h", ("struct", "n"))))
        self.assertEqual(layout(schema, "n", 1), (4, 2, (number("e", 0, 1), number("h.s", 2, 2)), ()))

    def test_names_of_fields_ahead_and_initial_values_change_no_layout(self):
        plain = of_record(field("a", U8), field("b", I16_BIG))
        told = of_record(field("a", U8, "old", 7), field("b", I16_BIG, "gone", -300))
        self.assertEqual(told, plain)
        self.assertEqual(told, (4, 2, (number("a", 0, 1), number("b", 2, 2, True, True)), ()))


class Words(unittest.TestCase):
    def test_each_word(self):
        for size in (1, 2, 4):
            for signed in (False, True):
                for big in (False, True):
                    with self.subTest(size=size, signed=signed, big=big):
                        expected = (size, size, (("f", 0, size, big, 0, 8 * size, signed, "number", ()),), ())
                        self.assertEqual(only(("word", size, signed, big)), expected)

    def test_each_is_at_the_first_offset_that_its_alignment_divides(self):
        for kinds, offsets, size, alignment in (
            ((U8, U8, U8), (0, 1, 2), 3, 1),
            ((U8, U16), (0, 2), 4, 2),
            ((U16, U8), (0, 2), 4, 2),
            ((U8, U8, U16), (0, 1, 2), 4, 2),
            ((U8, U32), (0, 4), 8, 4),
            ((U32, U8), (0, 4), 8, 4),
            ((U8, U16, U8, U32), (0, 2, 4, 8), 12, 4),
            ((U8, U16, U32), (0, 2, 4), 8, 4),
            ((U16, U8, U32, U8, U16), (0, 2, 4, 8, 10), 12, 4),
            ((U32, U16, U8), (0, 4, 6), 8, 4),
            ((U8, U8, U8, U8, U8, U32, U8), (0, 1, 2, 3, 4, 8, 12), 16, 4),
            ((U16, U16, U16), (0, 2, 4), 6, 2),
        ):
            names = "abcdefgh"[:len(kinds)]
            with self.subTest(sizes=[kind[1] for kind in kinds]):
                expected = tuple(number(name, at, kind[1]) for name, at, kind in zip(names, offsets, kinds))
                answer = of_record(*(field(name, kind) for name, kind in zip(names, kinds)))
                self.assertEqual(answer, (size, alignment, expected, ()))

    def test_as_many_bytes_and_as_many_fields_as_there_can_be(self):
        names = [f"f{index}" for index in range(24)]
        wide = of_record(*(field(name, U32) for name in names[:16]))
        self.assertEqual(wide, (64, 4, tuple(number(name, 4 * at, 4) for at, name in enumerate(names[:16])), ()))
        many = of_record(*(field(name, U8) for name in names))
        self.assertEqual(many, (24, 1, tuple(number(name, at, 1) for at, name in enumerate(names)), ()))


class Bits(unittest.TestCase):
    def test_each_begins_behind_the_one_ahead(self):
        for size in (1, 2, 4):
            for big in (False, True):
                with self.subTest(size=size, big=big):
                    slots = (("a", 1), ("b", 4), ("c", 8 * size - 5))
                    expected = (
                        bit("f.a", 0, size, big, 0, 1), bit("f.b", 0, size, big, 1, 4),
                        bit("f.c", 0, size, big, 5, 8 * size - 5),
                    )
                    self.assertEqual(only(("bits", size, big, slots)), (size, size, expected, ()))

    def test_a_word_that_is_not_filled(self):
        expected = (bit("f.sail", 0, 2, True, 0, 1), bit("f.crew", 0, 2, True, 1, 6))
        self.assertEqual(only(("bits", 2, True, (("sail", 1), ("crew", 6)))), (2, 2, expected, ()))

    def test_one_bit_field(self):
        self.assertEqual(only(("bits", 4, False, (("a", 1),))), (4, 4, (bit("f.a", 0, 4, False, 0, 1),), ()))
        self.assertEqual(only(("bits", 4, True, (("a", 32),))), (4, 4, (bit("f.a", 0, 4, True, 0, 32),), ()))

    def test_aligned_as_the_word(self):
        answer = of_record(
            field("a", U8), field("b", ("bits", 4, False, (("x", 3), ("y", 9)))), field("c", U8),
            field("d", ("bits", 2, True, (("x", 16),))), field("e", ("bits", 1, False, (("z", 8),))),
        )
        fields = (
            number("a", 0, 1), bit("b.x", 4, 4, False, 0, 3), bit("b.y", 4, 4, False, 3, 9), number("c", 8, 1),
            bit("d.x", 10, 2, True, 0, 16), bit("e.z", 12, 1, False, 0, 8),
        )
        self.assertEqual(answer, (16, 4, fields, ()))


class Structs(unittest.TestCase):
    def test_layouts_of_structs(self):
        self.assertEqual(struct_layout((POINT, WIDE, BYTES), "point"), (4, 2, POINT_AT, ()))
        self.assertEqual(
            struct_layout((POINT, WIDE, BYTES), "wide"), (8, 4, (number("w", 0, 4), number("b", 4, 2)), ()))
        fields = (number("a", 0, 1), number("b", 1, 1), number("c", 2, 1, signed=True))
        self.assertEqual(struct_layout((POINT, WIDE, BYTES), "three"), (3, 1, fields, ()))

    def test_a_struct_in_a_record(self):
        answer = layout((WIDE, POINT, record("r", 1, field("a", U8), field("s", ("struct", "point")),
                                             field("t", ("struct", "wide")), field("z", U8))), "r", 1)
        fields = (
            number("a", 0, 1), number("s.x", 2, 1), number("s.y", 4, 2, signed=True),
            number("t.w", 8, 4), number("t.b", 12, 2), number("z", 16, 1),
        )
        self.assertEqual(answer, (20, 4, fields, ()))

    def test_a_struct_of_bytes_stands_anywhere(self):
        answer = layout((BYTES, record("r", 1, field("a", U8), field("s", ("struct", "three")),
                                       field("b", U8))), "r", 1)
        fields = (
            number("a", 0, 1), number("s.a", 1, 1), number("s.b", 2, 1), number("s.c", 3, 1, signed=True),
            number("b", 4, 1),
        )
        self.assertEqual(answer, (5, 1, fields, ()))

    def test_structs_within_structs(self):
        middle = struct("middle", field("a", U8), field("p", ("struct", "point")), field("m", ("bits", 1, False, (
            ("u", 2), ("v", 6)))))
        outer = struct("outer", field("o", U32), field("m", ("struct", "middle")))
        inner = (
            number("a", 0, 1), number("p.x", 2, 1), number("p.y", 4, 2, signed=True),
            bit("m.u", 6, 1, False, 0, 2), bit("m.v", 6, 1, False, 2, 6),
        )
        self.assertEqual(struct_layout((POINT, middle, outer), "middle"), (8, 2, inner, ()))
        fields = (
            number("f.o", 0, 4), number("f.m.a", 4, 1), number("f.m.p.x", 6, 1),
            number("f.m.p.y", 8, 2, signed=True), bit("f.m.m.u", 10, 1, False, 0, 2),
            bit("f.m.m.v", 10, 1, False, 2, 6),
        )
        self.assertEqual(only(("struct", "outer"), POINT, middle, outer), (12, 4, fields, ()))

    def test_as_deep_as_there_are_declarations(self):
        structs = [struct("s1", field("v", U8), field("w", U16))]
        for level in range(2, 8):
            structs.append(struct(f"s{level}", field("v", U8), field("w", ("struct", f"s{level - 1}"))))
        fields = [number("f." + "w." * level + "v", 2 * level, 1) for level in range(7)]
        fields.append(number("f.w.w.w.w.w.w.w", 14, 2))
        self.assertEqual(only(("struct", "s7"), *structs), (16, 2, tuple(fields), ()))


class Rows(unittest.TestCase):
    def test_rows_of_words(self):
        for count in range(1, 7):
            for kind in (U8, I16_BIG, I32):
                with self.subTest(count=count, kind=kind):
                    _, size, signed, big = kind
                    fields = tuple(number(f"f.{at}", at * size, size, signed, big) for at in range(count))
                    self.assertEqual(only(("row", count, kind)), (count * size, size, fields, ()))

    def test_a_row_has_the_alignment_of_its_item(self):
        answer = of_record(field("a", U8), field("b", ("row", 3, U16)), field("c", ("row", 3, U8)), field("d", U32))
        fields = (
            number("a", 0, 1), number("b.0", 2, 2), number("b.1", 4, 2), number("b.2", 6, 2),
            number("c.0", 8, 1), number("c.1", 9, 1), number("c.2", 10, 1), number("d", 12, 4),
        )
        self.assertEqual(answer, (16, 4, fields, ()))

    def test_rows_of_structs(self):
        fields = (
            number("f.0.w", 0, 4), number("f.0.b", 4, 2), number("f.1.w", 8, 4), number("f.1.b", 12, 2),
            number("f.2.w", 16, 4), number("f.2.b", 20, 2),
        )
        self.assertEqual(only(("row", 3, ("struct", "wide")), WIDE), (24, 4, fields, ()))

    def test_rows_of_structs_of_bytes(self):
        fields = (
            number("f.0.a", 0, 1), number("f.0.b", 1, 1), number("f.0.c", 2, 1, signed=True),
            number("f.1.a", 3, 1), number("f.1.b", 4, 1), number("f.1.c", 5, 1, signed=True),
        )
        self.assertEqual(only(("row", 2, ("struct", "three")), BYTES), (6, 1, fields, ()))

    def test_rows_within_structs_within_rows(self):
        pair = struct("pair", field("n", ("row", 2, U16_BIG)), field("b", ("bits", 1, True, (("t", 3),))))
        fields = (
            number("f.0.n.0", 0, 2, big=True), number("f.0.n.1", 2, 2, big=True), bit("f.0.b.t", 4, 1, True, 0, 3),
            number("f.1.n.0", 6, 2, big=True), number("f.1.n.1", 8, 2, big=True), bit("f.1.b.t", 10, 1, True, 0, 3),
        )
        self.assertEqual(only(("row", 2, ("struct", "pair")), pair), (12, 2, fields, ()))


class Unions(unittest.TestCase):
    def test_the_example_of_the_document(self):
        schema = (struct("s", field("w", U16)), record("r", 1, field("a", U8), field("h", ("one", ("s",)))))
        fields = (number("a", 0, 1), tag("h", 2), number("h.s.w", 4, 2, under=(("h", 1),)))
        self.assertEqual(layout(schema, "r", 1), (6, 2, fields, ()))

    def test_alternatives_of_bytes(self):
        one = struct("one1", field("q", U8))
        fields = (
            tag("f", 0), number("f.three.a", 1, 1, under=(("f", 1),)), number("f.three.b", 2, 1, under=(("f", 1),)),
            number("f.three.c", 3, 1, signed=True, under=(("f", 1),)), number("f.one1.q", 1, 1, under=(("f", 2),)),
        )
        self.assertEqual(only(("one", ("three", "one1")), BYTES, one), (4, 1, fields, ()))

    def test_the_greatest_alignment_holds_for_all(self):
        long = struct("long", field("n", ("row", 5, U16)))
        fields = (
            tag("f", 0), number("f.point.x", 4, 1, under=(("f", 1),)),
            number("f.point.y", 6, 2, signed=True, under=(("f", 1),)),
            number("f.wide.w", 4, 4, under=(("f", 2),)), number("f.wide.b", 8, 2, under=(("f", 2),)),
        ) + tuple(number(f"f.long.n.{at}", 4 + 2 * at, 2, under=(("f", 3),)) for at in range(5))
        self.assertEqual(only(("one", ("point", "wide", "long")), WIDE, POINT, long), (16, 4, fields, ()))

    def test_the_size_is_rounded_up(self):
        word = struct("word2", field("w", U16))
        fields = (
            tag("f", 0), number("f.word2.w", 2, 2, under=(("f", 1),)), number("f.three.a", 2, 1, under=(("f", 2),)),
            number("f.three.b", 3, 1, under=(("f", 2),)), number("f.three.c", 4, 1, signed=True, under=(("f", 2),)),
        )
        self.assertEqual(only(("one", ("word2", "three")), word, BYTES), (6, 2, fields, ()))

    def test_aligned_in_the_record(self):
        answer = layout((WIDE, record("r", 1, field("a", U8), field("u", ("one", ("wide",))), field("b", U8),
                                      field("v", ("one", ("wide",))))), "r", 1)
        fields = (
            number("a", 0, 1), tag("u", 4), number("u.wide.w", 8, 4, under=(("u", 1),)),
            number("u.wide.b", 12, 2, under=(("u", 1),)), number("b", 16, 1), tag("v", 20),
            number("v.wide.w", 24, 4, under=(("v", 1),)), number("v.wide.b", 28, 2, under=(("v", 1),)),
        )
        self.assertEqual(answer, (32, 4, fields, ()))

    def test_many_alternatives(self):
        structs = [struct(f"s{at}", field(f"v{at}", U8)) for at in range(1, 8)]
        names = tuple(item[1] for item in structs)
        fields = [tag("f", 0)]
        fields += [number(f"f.s{at}.v{at}", 1, 1, under=(("f", at),)) for at in range(1, 8)]
        self.assertEqual(only(("one", names), *structs), (2, 1, tuple(fields), ()))

    def test_the_number_of_an_alternative_is_its_place_in_the_union(self):
        fields = (
            tag("f", 0), number("f.wide.w", 4, 4, under=(("f", 1),)), number("f.wide.b", 8, 2, under=(("f", 1),)),
            number("f.point.x", 4, 1, under=(("f", 2),)), number("f.point.y", 6, 2, signed=True, under=(("f", 2),)),
        )
        self.assertEqual(only(("one", ("wide", "point")), POINT, BYTES, WIDE), (12, 4, fields, ()))

    def test_a_union_within_a_struct(self):
        inner = (
            number("k", 0, 2), tag("u", 2), number("u.point.x", 4, 1, under=(("u", 1),)),
            number("u.point.y", 6, 2, signed=True, under=(("u", 1),)), number("u.three.a", 4, 1, under=(("u", 2),)),
            number("u.three.b", 5, 1, under=(("u", 2),)), number("u.three.c", 6, 1, signed=True, under=(("u", 2),)),
        )
        self.assertEqual(struct_layout((POINT, BYTES, ARC), "arc"), (8, 2, inner, ()))
        answer = layout((POINT, BYTES, ARC, record("r", 1, field("a", U8), field("s", ("struct", "arc")))), "r", 1)
        point, three = (("s.u", 1),), (("s.u", 2),)
        fields = (
            number("a", 0, 1), number("s.k", 2, 2), tag("s.u", 4), number("s.u.point.x", 6, 1, under=point),
            number("s.u.point.y", 8, 2, signed=True, under=point), number("s.u.three.a", 6, 1, under=three),
            number("s.u.three.b", 7, 1, under=three), number("s.u.three.c", 8, 1, signed=True, under=three),
        )
        self.assertEqual(answer, (10, 2, fields, ()))

    def test_a_union_within_a_struct_within_a_row(self):
        fields = []
        for at in (0, 1, 2):
            path, begin = f"f.{at}", 8 * at
            point, three = ((f"{path}.u", 1),), ((f"{path}.u", 2),)
            fields += [
                number(f"{path}.k", begin, 2), tag(f"{path}.u", begin + 2),
                number(f"{path}.u.point.x", begin + 4, 1, under=point),
                number(f"{path}.u.point.y", begin + 6, 2, signed=True, under=point),
                number(f"{path}.u.three.a", begin + 4, 1, under=three),
                number(f"{path}.u.three.b", begin + 5, 1, under=three),
                number(f"{path}.u.three.c", begin + 6, 1, signed=True, under=three),
            ]
        answer = only(("row", 3, ("struct", "arc")), POINT, BYTES, ARC)
        self.assertEqual(answer, (24, 2, tuple(fields), ()))

    def test_a_union_within_a_union(self):
        box = struct("box", field("e", U8), field("h", ("struct", "arc")))
        low, middle, high = ("f", 2), ("f.box.h.u", 1), ("f.box.h.u", 2)
        fields = (
            tag("f", 0), number("f.wide.w", 4, 4, under=(("f", 1),)), number("f.wide.b", 8, 2, under=(("f", 1),)),
            number("f.box.e", 4, 1, under=(low,)), number("f.box.h.k", 6, 2, under=(low,)),
            tag("f.box.h.u", 8, under=(low,)), number("f.box.h.u.point.x", 10, 1, under=(low, middle)),
            number("f.box.h.u.point.y", 12, 2, signed=True, under=(low, middle)),
            number("f.box.h.u.three.a", 10, 1, under=(low, high)),
            number("f.box.h.u.three.b", 11, 1, under=(low, high)),
            number("f.box.h.u.three.c", 12, 1, signed=True, under=(low, high)),
        )
        self.assertEqual(only(("one", ("wide", "box")), WIDE, POINT, BYTES, ARC, box), (16, 4, fields, ()))

    def test_conditions_stand_from_outside(self):
        leaf = struct("leaf", field("v", U8))
        twig = struct("twig", field("t", ("one", ("leaf",))))
        branch = struct("branch", field("n", ("row", 2, ("struct", "twig"))))
        tree = struct("tree", field("b", ("one", ("leaf", "twig", "branch"))))
        on_leaf, on_twig, on_branch = ("f.b", 1), ("f.b", 2), ("f.b", 3)
        fields = (
            tag("f.b", 0), number("f.b.leaf.v", 1, 1, under=(on_leaf,)), tag("f.b.twig.t", 1, under=(on_twig,)),
            number("f.b.twig.t.leaf.v", 2, 1, under=(on_twig, ("f.b.twig.t", 1))),
            tag("f.b.branch.n.0.t", 1, under=(on_branch,)),
            number("f.b.branch.n.0.t.leaf.v", 2, 1, under=(on_branch, ("f.b.branch.n.0.t", 1))),
            tag("f.b.branch.n.1.t", 3, under=(on_branch,)),
            number("f.b.branch.n.1.t.leaf.v", 4, 1, under=(on_branch, ("f.b.branch.n.1.t", 1))),
        )
        self.assertEqual(only(("struct", "tree"), leaf, twig, branch, tree), (5, 1, fields, ()))

    def test_bits_and_references_within_a_union(self):
        link = struct("link", field("to", ("ref", "r")), field("m", ("bits", 2, False, (("p", 9), ("q", 7)))))
        under = (("f", 1),)
        fields = (
            tag("f", 0), reference("f.link.to", 4, under), bit("f.link.m.p", 8, 2, False, 0, 9, under),
            bit("f.link.m.q", 8, 2, False, 9, 7, under),
        )
        self.assertEqual(only(("one", ("link",)), link), (12, 4, fields, ()))


class References(unittest.TestCase):
    def test_a_whole_word(self):
        self.assertEqual(only(("ref", "r")), (4, 4, (reference("f", 0),), ()))

    def test_aligned_to_four(self):
        answer = of_record(field("a", U16), field("b", ("ref", "r")), field("c", U8), field("d", ("ref", "r")))
        fields = (number("a", 0, 2), reference("b", 4), number("c", 8, 1), reference("d", 12))
        self.assertEqual(answer, (16, 4, fields, ()))

    def test_within_structs(self):
        link = struct("link", field("n", U8), field("to", ("ref", "other")))
        fields = (number("f.0.n", 0, 1), reference("f.0.to", 4), number("f.1.n", 8, 1), reference("f.1.to", 12))
        schema = (link, record("r", 1, field("f", ("row", 2, ("struct", "link")))), record("other", 1, field("a", U8)))
        self.assertEqual(layout(schema, "r", 1), (16, 4, fields, ()))


class Lists(unittest.TestCase):
    def test_lists_of_words(self):
        for kind in (U8, I8, U16, I16, I16_BIG, U32, I32_BIG):
            with self.subTest(kind=kind):
                _, size, signed, big = kind
                item = (number("", 0, size, signed, big),)
                self.assertEqual(only(("list", kind)), (4, 2, (), (("f", 0, size, item),)))

    def test_lists_of_structs(self):
        answer = only(("list", ("struct", "point")), POINT)
        self.assertEqual(answer, (4, 2, (), (("f", 0, 4, POINT_AT),)))
        answer = only(("list", ("struct", "wide")), WIDE)
        self.assertEqual(answer, (4, 2, (), (("f", 0, 8, (number("w", 0, 4), number("b", 4, 2))),)))
        answer = only(("list", ("struct", "three")), BYTES)
        item = (number("a", 0, 1), number("b", 1, 1), number("c", 2, 1, signed=True))
        self.assertEqual(answer, (4, 2, (), (("f", 0, 3, item),)))

    def test_tag_paths_and_offsets_of_an_item_are_those_in_the_item(self):
        point, three = (("u", 1),), (("u", 2),)
        item = (
            number("k", 0, 2), tag("u", 2), number("u.point.x", 4, 1, under=point),
            number("u.point.y", 6, 2, signed=True, under=point), number("u.three.a", 4, 1, under=three),
            number("u.three.b", 5, 1, under=three), number("u.three.c", 6, 1, signed=True, under=three),
        )
        schema = (POINT, BYTES, ARC, record("r", 1, field("a", U32), field("ls", ("list", ("struct", "arc")))))
        self.assertEqual(layout(schema, "r", 1), (8, 4, (number("a", 0, 4),), (("ls", 4, 8, item),)))

    def test_rows_bits_and_references_in_an_item(self):
        item = struct("item", field("n", ("row", 2, U8)), field("b", ("bits", 1, True, (("p", 2), ("q", 3)))),
                      field("to", ("ref", "r")), field("s", ("struct", "point")))
        fields = (
            number("n.0", 0, 1), number("n.1", 1, 1), bit("b.p", 2, 1, True, 0, 2), bit("b.q", 2, 1, True, 2, 3),
            reference("to", 4), number("s.x", 8, 1), number("s.y", 10, 2, signed=True),
        )
        answer = only(("list", ("struct", "item")), POINT, item)
        self.assertEqual(answer, (4, 2, (), (("f", 0, 12, fields),)))

    def test_headers_take_four_bytes_at_even_offsets(self):
        answer = of_record(field("a", U8), field("b", ("list", U32)), field("c", U8), field("d", ("list", U8)),
                           field("e", U16))
        lists = (("b", 2, 4, (number("", 0, 4),)), ("d", 8, 1, (number("", 0, 1),)))
        fields = (number("a", 0, 1), number("c", 6, 1), number("e", 12, 2))
        self.assertEqual(answer, (14, 2, fields, lists))

    def test_two_lists_side_by_side(self):
        schema = (WIDE, record("r", 1, field("one1", ("list", ("struct", "wide"))), field("two", ("list", I16)),
                               field("z", U8)))
        lists = (("one1", 0, 8, (number("w", 0, 4), number("b", 4, 2))), ("two", 4, 2, (number("", 0, 2, True),)))
        self.assertEqual(layout(schema, "r", 1), (10, 2, (number("z", 8, 1),), lists))

    def test_a_list_behind_a_wide_word(self):
        answer = of_record(field("w", U16), field("b", ("list", U8)), field("z", U32))
        expected = (12, 4, (number("w", 0, 2), number("z", 8, 4)), (("b", 2, 1, (number("", 0, 1),)),))
        self.assertEqual(answer, expected)

    def test_the_first_example_of_the_document(self):
        marks = ("bits", 1, False, (("sail", 1), ("crew", 6)))
        answer = of_record(field("tonnes", U16, None, 100), field("marks", marks), field("ports", ("list", U8)))
        fields = (number("tonnes", 0, 2), bit("marks.sail", 2, 1, False, 0, 1), bit("marks.crew", 2, 1, False, 1, 6))
        self.assertEqual(answer, (8, 2, fields, (("ports", 4, 1, (number("", 0, 1),)),)))


class Wholes(unittest.TestCase):
    def test_all_types_in_one_record(self):
        schema = (
            record("first", 1, field("a", U8)), POINT, WIDE,
            record("all", 1, field("old", U8)),
            record(
                "all", 2, field("w", I8, "old"), field("b", ("bits", 2, True, (("lo", 7), ("hi", 2)))),
                field("s", ("struct", "point")), field("n", ("row", 2, ("struct", "point"))),
                field("u", ("one", ("point", "wide"))), field("l", ("list", ("struct", "point"))),
                field("to", ("ref", "first")), field("m", ("list", U16_BIG)), field("z", U8),
            ),
        )
        point, wide = (("u", 1),), (("u", 2),)
        fields = (
            number("w", 0, 1, signed=True), bit("b.lo", 2, 2, True, 0, 7), bit("b.hi", 2, 2, True, 7, 2),
            number("s.x", 4, 1), number("s.y", 6, 2, signed=True), number("n.0.x", 8, 1),
            number("n.0.y", 10, 2, signed=True), number("n.1.x", 12, 1), number("n.1.y", 14, 2, signed=True),
            tag("u", 16), number("u.point.x", 20, 1, under=point), number("u.point.y", 22, 2, signed=True, under=point),
            number("u.wide.w", 20, 4, under=wide), number("u.wide.b", 24, 2, under=wide),
            reference("to", 32), number("z", 40, 1),
        )
        lists = (("l", 28, 4, POINT_AT), ("m", 36, 2, (number("", 0, 2, big=True),)))
        self.assertEqual(layout(schema, "all", 2), (44, 4, fields, lists))
        self.assertEqual(layout(schema, "all", 1), (1, 1, (number("old", 0, 1),), ()))
        self.assertEqual(layout(schema, "first", 1), (1, 1, (number("a", 0, 1),), ()))


if __name__ == "__main__":
    unittest.main()
