"""r1 to r7, l1, t3: long rows of calls, after each of which all answers, refusals and bytes are those of a plain table."""

import functools
import unittest

from recstore.blocks import blocks, empty, used
from recstore.errors import BadField, Full, OutOfRange
from recstore.integers import bounds, write_slot
from recstore.layouts import declaration, layout, types
from recstore.lists import length, pop, push
from recstore.records import delete, new_record, record_at, select, set_value, upgrade, value, values
from recstore.schema import parse_schema
from recstore.versions import trace, trace_element, trace_list

layout, trace, trace_element, trace_list = map(functools.cache, (layout, trace, trace_element, trace_list))

SCHEMA = parse_schema(
    "struct s { x: u8; y: i16 big; } struct t { z: bits u8 { a 3, b 5 }; to: ref q; } struct v { o: one of s, t; w: u32; }"
    "struct w { x: u8; w: u32 big; o: one of s, t; }"
    "record q 1 { a: u8 = 5; l: list of u8; }"
    "record r 1 { a: i8 = -3; o: one of s, v; m: list of v; l: list of i8; to: ref r; }"
    "record r 2 { b was a: i16; o: one of s, v, t; n was m: list of w; c: u32 big = 70000; l: list of i32; }"
    "record r 3 { o: one of s, v, t; d was b: i32; l: list of i32; n: list of t; a: u8 = 9; to: ref r; }"
)
# The alternatives of the union o of a record r, by its version; those of all others are s and t.
NAMES = {1: ("s", "v"), 2: ("s", "v", "t"), 3: ("s", "v", "t")}
VERSIONS = dict(types(SCHEMA))


class Table:
    """Records without bytes: for each number [name, version, values by paths, lists of such values]."""

    def __init__(self, size):
        self.size = size
        self.records = {}

    def shape(self, number):
        return layout(SCHEMA, self.records[number][0], self.records[number][1])

    def sizes(self, number):
        """The bytes of the blocks of a record."""
        shape = self.shape(number)
        found = [8 + (shape[0] + 7) // 8 * 8]
        for name, _, stride, _ in shape[3]:
            many = len(self.records[number][3][name])
            found.append(8 + (many * stride + 7) // 8 * 8 if many else 0)
        return sum(found)

    def used(self):
        return sum(self.sizes(number) for number in self.records)

    def told(self, fields, found):
        """The active values among those of a record itself or of an element."""
        return {
            field[0]: found[field[0]] for field in fields if all(found[tag] == number for tag, number in field[8])
        }

    def reference(self, name, path, to):
        """What a reference is read as: the field to of r is one to r, all others are within t and to q."""
        other = "r" if name == "r" and path == "to" else "q"
        return to if to in self.records and self.records[to][0] == other else 0

    def read(self, number, version):
        """(values of the record itself, lists of values), read as a version, the inactive ones left out."""
        name, stored, own, lists = self.records[number]
        shape = layout(SCHEMA, name, version)
        found = {}
        for field in shape[2]:
            told = trace(SCHEMA, name, version, field[0], stored)
            found[field[0]] = own[told[1]] if told[0] == "field" else told[1]
            if field[7] == "reference":
                found[field[0]] = self.reference(name, field[0], found[field[0]])
        many = {}
        for list_name, _, _, fields in shape[3]:
            older = trace_list(SCHEMA, name, version, list_name, stored)
            many[list_name] = []
            for item in lists[older] if older is not None else []:
                made = {}
                for field in fields:
                    told = trace_element(SCHEMA, name, version, list_name, field[0], stored)
                    made[field[0]] = item[told[2]] if told[0] == "field" else 0
                    if field[7] == "reference":
                        made[field[0]] = self.reference(name, "t." + field[0], made[field[0]])
                many[list_name].append(self.told(fields, made))
        return self.told(shape[2], found), many

    def content(self, number, list_name):
        """The bytes that are stored of a record itself (without its list headers), or of a list."""
        shape = self.shape(number)
        if list_name is None:
            return self.bytes(shape[0], shape[2], self.records[number][2])
        stride, fields = [entry[2:] for entry in shape[3] if entry[0] == list_name][0]
        items = self.records[number][3][list_name]
        return [byte for item in items for byte in self.bytes(stride, fields, item)]

    def bytes(self, size, fields, found):
        data = [0] * size
        active = self.told(fields, found)
        for field in fields:
            if field[0] in active:
                write_slot(data, *field[1:7], active[field[0]])
        return data


class Rows(unittest.TestCase):
    def setUp(self):
        self.state = 1

    def pick(self, many):
        self.state = (self.state * 1103515245 + 12345) % 2 ** 31
        return self.state // 65536 % many

    def one_of(self, items):
        return list(items)[self.pick(len(items))]

    def test_rows(self):
        for seed, size in enumerate((160, 256, 400, 640, 1024)):
            self.state = 77 * seed + 5
            self.data, self.table = empty(size), Table(size)
            for number in range(1, 110):
                self.step(number)
                self.compare()

    def refused(self, error, reason, call, *arguments):
        before = list(self.data)
        with self.assertRaises(error) as caught:
            call(SCHEMA, self.data, *arguments)
        if reason is not None:
            self.assertEqual(caught.exception.reason, reason)
        self.assertEqual(self.data, before)

    def step(self, number):
        choice = self.pick(20)
        if choice < 3 or not self.table.records:
            return self.create(number)
        chosen = self.one_of(self.table.records)
        if choice < 8:
            return self.put(chosen)
        if choice < 11:
            return self.select(chosen)
        if choice < 15:
            return self.push(chosen)
        if choice < 17:
            return self.pop(chosen)
        if choice < 19:
            return self.upgrade(chosen)
        delete(SCHEMA, self.data, chosen)
        del self.table.records[chosen]

    def create(self, number):
        name = self.one_of(VERSIONS)
        version = 1 + self.pick(VERSIONS[name])
        shape = layout(SCHEMA, name, version)
        initial = {field[0]: field[3] or 0 for field in declaration(SCHEMA, name, version)}
        made = [name, version, {field[0]: initial.get(field[0], 0) for field in shape[2]}, {entry[0]: [] for entry in shape[3]}]
        self.table.records[number] = made
        if self.table.used() > self.table.size:
            del self.table.records[number]
            self.refused(Full, None, new_record, name, version, number)
        else:
            new_record(SCHEMA, self.data, name, version, number)

    def places(self, number):
        """All fields that are there: (path, field, the values among which its own is, all fields beside it)."""
        shape = self.table.shape(number)
        own, lists = self.table.records[number][2:]
        found = [(field[0], field, own, shape[2]) for field in shape[2]]
        for name, _, _, fields in shape[3]:
            for index, item in enumerate(lists[name]):
                for field in fields:
                    path = f"{name}.{index}" + ("." + field[0] if field[0] else "")
                    found.append((path, field, item, fields))
        return found

    def put(self, number):
        path, field, found, fields = self.one_of(self.places(number))
        least, greatest = bounds(field[5], field[6])
        new = self.one_of([least, greatest, 0, least - 1, greatest + 1, self.pick(200), -self.pick(200)])
        if field[7] == "reference" and self.pick(4):
            new = self.one_of(list(self.table.records) + [0])
        name = self.table.records[number][0]
        if field[7] == "tag":
            self.refused(BadField, "tag", set_value, number, path, new)
        elif field[0] not in self.table.told(fields, found):
            self.refused(BadField, "not active", set_value, number, path, new)
        elif not least <= new <= greatest:
            self.refused(OutOfRange, None, set_value, number, path, new)
        elif field[7] == "reference" and new != 0 and self.table.reference(name, path, new) != new:
            self.refused(BadField, "no such record", set_value, number, path, new)
        else:
            set_value(SCHEMA, self.data, number, path, new)
            found[field[0]] = new

    def select(self, number):
        tags = [place for place in self.places(number) if place[1][7] == "tag"]
        path, field, found, fields = self.one_of(tags if tags and self.pick(5) else self.places(number))
        names = NAMES[self.table.records[number][1]] if path == "o" else ("s", "t")
        name = self.one_of(names + (None, "q"))
        if field[7] != "tag":
            self.refused(BadField, "not a union", select, number, path, name)
        elif field[0] not in self.table.told(fields, found):
            self.refused(BadField, "not active", select, number, path, name)
        elif name == "q":
            self.refused(BadField, "no such alternative", select, number, path, name)
        else:
            select(SCHEMA, self.data, number, path, name)
            for other in fields:
                if field[0] in [tag for tag, _ in other[8]]:
                    found[other[0]] = 0
            found[field[0]] = 0 if name is None else names.index(name) + 1

    def push(self, number):
        name, _, _, fields = self.one_of(self.table.shape(number)[3])
        items = self.table.records[number][3][name]
        new = self.one_of([None, None, 0, 1, -1, 127, 255, 256, 40000, 2 ** 31])
        for _ in range(1 + self.pick(20) if new is None else 1):
            item = {field[0]: 0 for field in fields}
            items.append(item)
            full = self.table.used() > self.table.size
            items.pop()
            if len(items) == 60:
                self.refused(BadField, "long", push, number, name, new)
            elif new is not None and "" not in item:
                self.refused(BadField, "no value", push, number, name, new)
            elif new is not None and not bounds(*fields[0][5:7])[0] <= new <= bounds(*fields[0][5:7])[1]:
                self.refused(OutOfRange, None, push, number, name, new)
            elif full:
                self.refused(Full, None, push, number, name, new)
            else:
                if new is not None:
                    item[""] = new
                items.append(item)
                self.assertEqual(push(SCHEMA, self.data, number, name, new), len(items))

    def pop(self, number):
        name = self.one_of(self.table.shape(number)[3])[0]
        items = self.table.records[number][3][name]
        for _ in range(1 + self.pick(9)):
            if items:
                items.pop()
                self.assertEqual(pop(SCHEMA, self.data, number, name), len(items))
            else:
                self.refused(BadField, "empty", pop, number, name)

    def upgrade(self, number):
        name, stored, _, _ = self.table.records[number]
        if stored == VERSIONS[name]:
            return
        version = stored + 1 + self.pick(VERSIONS[name] - stored)
        own, lists = self.table.read(number, version)
        shape = layout(SCHEMA, name, version)
        before = self.table.records[number]
        self.table.records[number] = [
            name, version, {field[0]: own.get(field[0], 0) for field in shape[2]},
            {entry[0]: [{field[0]: item.get(field[0], 0) for field in entry[3]} for item in lists[entry[0]]] for entry in shape[3]},
        ]
        if self.table.used() > self.table.size:
            self.table.records[number] = before
            self.refused(Full, None, upgrade, number, version)
        else:
            upgrade(SCHEMA, self.data, number, version)

    def compare(self):
        self.compare_blocks()
        for number, (name, stored, _, _) in self.table.records.items():
            self.assertEqual(record_at(SCHEMA, self.data, number)[:2], (name, stored))
            for version in range(stored, VERSIONS[name] + 1):
                own, lists = self.table.read(number, version)
                self.assertEqual(values(SCHEMA, self.data, number, version, ""), list(own.items()))
                for list_name, items in lists.items():
                    pairs = [
                        (f"{list_name}.{index}" + ("." + path if path else ""), found)
                        for index, item in enumerate(items) for path, found in item.items()
                    ]
                    self.assertEqual(values(SCHEMA, self.data, number, version, list_name), pairs)
                    self.assertEqual(length(SCHEMA, self.data, number, version, list_name), len(items))
                    for path, found in pairs[-1:]:
                        self.assertEqual(value(SCHEMA, self.data, number, version, path), found)

    def compare_blocks(self):
        """b1, r1: all bytes of all blocks."""
        found = blocks(self.data)
        self.assertEqual(used(self.data), self.table.used())
        self.assertEqual(sum(block[1] for block in found), self.table.size)
        places = {block[2:]: block[:2] for block in found if block[2]}
        expected = {}
        for number, (name, stored, _, lists) in self.table.records.items():
            content = self.table.content(number, None)
            for index, entry in enumerate(self.table.shape(number)[3]):
                many = len(lists[entry[0]])
                place = places[(number, 128 + index)][0] // 8 + 1 if many else 0
                content[entry[1]:entry[1] + 4] = [many, 0, place, 0]
                if many:
                    expected[(number, 128 + index)] = self.table.content(number, entry[0])
            expected[(number, stored)] = content
        self.assertEqual(sorted(places), sorted(expected))
        for key, (offset, size) in places.items():
            kind = [pair[0] for pair in types(SCHEMA)].index(self.table.records[key[0]][0]) + 1
            content = expected[key] + [0] * (-len(expected[key]) % 8)
            header = [size // 8, 0, kind, key[1], key[0], 0, 0, 0]
            self.assertEqual(self.data[offset:offset + size], header + content)
        for place, (offset, size, number, _) in enumerate(found):
            if number == 0:
                self.assertEqual(self.data[offset:offset + size], [size // 8] + [0] * (size - 1))
                self.assertTrue(place == 0 or found[place - 1][2] != 0)


if __name__ == "__main__":
    unittest.main()
