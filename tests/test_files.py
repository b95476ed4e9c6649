"""Points 7.1 to 7.4: layouts, the bytes of files, and the errors of write_groups."""

import copy
import unittest

from stripestack.errors import BadLayout, BadRecord, BadSchema
from stripestack.files import Opened, check_layout, plain_layout, read_groups, write_groups
from stripestack.numbers import put_number, put_word
from stripestack.pages import put_page, put_told, told_of
from stripestack.schema import columns_of
from stripestack.shred import shred
from tests.samples import DEEP, FLAT, NESTED, ONE, SCHEMAS, groups_of, layouts_of, records_of

SEAL = [83, 84, 75, 49]
ALL_KINDS = (("i", "one", "int"), ("b", "one", "bool"), ("t", "one", "text"))


def fields_by_the_words(fields):
    written = [len(fields)]
    for name, times, kind in fields:
        written += [len(name)] + list(name.encode("ascii")) + [{"one": 0, "maybe": 1, "many": 2}[times]]
        if isinstance(kind, tuple):
            written += [3] + fields_by_the_words(kind)
        else:
            written += [{"int": 0, "bool": 1, "text": 2}[kind]]
    return written


def file_by_the_words(schema, groups):
    """Write a file page by page, each made of the records of the page alone."""
    pages = []
    footer = fields_by_the_words(schema) + put_number(len(groups))
    for records, (size, encodings) in groups:
        footer += put_number(len(records)) + put_number(size) + list(encodings)
        for column, encoding in zip(columns_of(schema), encodings):
            for first in range(0, len(records), size):
                entries = shred(schema, records[first:first + size])[column[0]]
                page = put_page(column, entries, encoding)
                pages += page
                footer += put_number(len(page)) + put_told(column, told_of(column, entries))
    return SEAL + pages + footer + put_word(len(footer)) + SEAL


class LayoutTest(unittest.TestCase):
    def refused(self, schema, layout, why):
        with self.assertRaises(BadLayout) as caught:
            check_layout(schema, layout)
        self.assertEqual(caught.exception.why, why)

    def test_good_layouts(self):
        for schema in SCHEMAS:
            for size in (1, 2, 999, 1000):
                for layout in layouts_of(schema, size):
                    self.assertIsNone(check_layout(schema, layout))

    def test_sizes(self):
        for size in (0, -1, -1000, 1001, 1002, 100000):
            self.refused(ONE, (size, (0,)), "size")

    def test_number_of_encodings(self):
        for encodings in ((), (0,), (0, 0), (0, 0, 0, 0), (0,) * 13):
            self.refused(ALL_KINDS, (1, encodings), "encodings")

    def test_the_encodings_of_a_group_are_those_of_its_columns(self):
        self.assertIsNone(check_layout(NESTED, (1, (0,) * 7)))
        self.refused(NESTED, (1, (0,) * 4), "encodings")

    def test_encodings_of_each_kind(self):
        for at, many in ((0, 3), (1, 1), (2, 2)):
            for encoding in range(-2, 6):
                encodings = [0, 0, 0]
                encodings[at] = encoding
                if 0 <= encoding < many:
                    self.assertIsNone(check_layout(ALL_KINDS, (10, tuple(encodings))))
                else:
                    self.refused(ALL_KINDS, (10, tuple(encodings)), "encoding")

    def test_the_first_mistake(self):
        self.refused(ALL_KINDS, (0, (0, 7)), "size")
        self.refused(ALL_KINDS, (1001, (0, 7, 0)), "size")
        self.refused(ALL_KINDS, (1, (0, 7)), "encodings")
        self.refused(ALL_KINDS, (1, (7, 7, 7, 7)), "encodings")
        self.refused(ALL_KINDS, (1, (0, 7, 0)), "encoding")

    def test_plain_layouts(self):
        self.assertEqual(plain_layout(ONE, 5), (5, (0,)))
        self.assertEqual(plain_layout(ALL_KINDS, 1), (1, (0, 0, 0)))
        self.assertEqual(plain_layout(NESTED, 1000), (1000, (0,) * 7))
        for schema in SCHEMAS:
            self.assertIsNone(check_layout(schema, plain_layout(schema, 10)))


class BytesTest(unittest.TestCase):
    def test_a_small_file_number_by_number(self):
        schema = (("id", "one", "int"), ("g", "many", (("t", "maybe", "text"),)))
        groups = [([(7, ()), (8, ((None,), ("ab",))), (8, ((None,),))], (2, (2, 1)))]
        pages = [
            # The ids of two records and of one, as differences.
            [2, 14, 2],
            [1, 16],
            # The texts: three entries with one value, and one entry without.
            [3, 7, 4, 7, 36, 1, 2, 97, 98],
            [1, 3, 0, 3, 1, 0],
        ]
        # The marks of 7, 8 and "ab", whose number is 3105, by the numbers of point 6.2.
        marks = [number * 2654435761 % 2**32 // 2**27 for number in (7, 8, 3105)]
        self.assertEqual(marks, [10, 30, 31])
        footer = [
            2,
            2, 105, 100, 0, 0,
            1, 103, 2, 3, 1, 1, 116, 1, 2,
            1,
            3, 2, 2, 1,
            3, 2, 7, 0, 0, 0, 8, 0, 0, 0, 0, 4, 0, 64,
            2, 2, 8, 0, 0, 0, 8, 0, 0, 0, 0, 0, 0, 64,
            9, 1, 2, 97, 98, 2, 97, 98, 0, 0, 0, 128,
            6, 0,
        ]
        wanted = SEAL + [byte for page in pages for byte in page] + footer + [len(footer), 0, 0, 0] + SEAL
        self.assertEqual(write_groups(schema, groups), wanted)

    def test_no_groups(self):
        footer = [1, 1, 97, 0, 0, 0]
        self.assertEqual(write_groups(ONE, []), SEAL + footer + [6, 0, 0, 0] + SEAL)

    def test_a_group_without_records(self):
        footer = [1, 1, 97, 0, 0, 1, 0, 232, 7, 2]
        self.assertEqual(write_groups(ONE, [([], (1000, (2,)))]), SEAL + footer + [10, 0, 0, 0] + SEAL)

    def test_all_times_and_kinds_of_fields(self):
        schema = (("a", "one", "int"), ("b9", "maybe", "bool"), ("c", "many", "text"), ("d", "one", ONE))
        fields = [4, 1, 97, 0, 0, 2, 98, 57, 1, 1, 1, 99, 2, 2, 1, 100, 0, 3, 1, 1, 97, 0, 0]
        self.assertEqual(write_groups(schema, []), SEAL + fields + [0] + [24, 0, 0, 0] + SEAL)

    def test_files_of_many_kinds(self):
        for seed, schema in enumerate(SCHEMAS):
            for counts in ((1,), (4,), (5,), (0, 3), (7, 0, 8, 2)):
                for sizes in ((1,), (2, 3), (1000, 1)):
                    groups = groups_of(schema, counts, sizes, seed)
                    with self.subTest(schema=schema, counts=counts, sizes=sizes):
                        self.assertEqual(write_groups(schema, groups), file_by_the_words(schema, groups))

    def test_each_encoding_of_each_column(self):
        for schema in (FLAT, NESTED, DEEP):
            records = records_of(schema, 25, 3)
            for layout in layouts_of(schema, 10):
                groups = [(records, layout)]
                self.assertEqual(write_groups(schema, groups), file_by_the_words(schema, groups))

    def test_the_last_page_has_fewer_records(self):
        for count, pages in ((1, [1]), (3, [3]), (4, [3, 1]), (6, [3, 3]), (8, [3, 3, 2])):
            data = write_groups(NESTED, [(records_of(NESTED, count, 1), plain_layout(NESTED, 3))])
            opened = Opened(data)
            for column in range(7):
                many = [len([entry for entry in opened.entries(0, column, page) if entry[0] == 0])
                        for page in range(len(opened.groups[0][2][column]))]
                self.assertEqual(many, pages)

    def test_nothing_is_modified(self):
        groups = groups_of(NESTED, (5, 0, 3), (2,), 1)
        kept = copy.deepcopy(groups)
        write_groups(NESTED, groups)
        self.assertEqual(groups, kept)


class ErrorsTest(unittest.TestCase):
    def refused(self, schema, groups, kind, why):
        kept = copy.deepcopy(groups)
        with self.assertRaises(kind) as caught:
            write_groups(schema, groups)
        self.assertIs(type(caught.exception), kind)
        self.assertEqual(caught.exception.why, why)
        self.assertEqual(groups, kept)

    def test_schemas(self):
        self.refused((), [], BadSchema, "fields")
        self.refused(None, [], BadSchema, "fields")
        self.refused((("A", "one", "int"),), [], BadSchema, "name")
        self.refused((("a", "one", "float"),), [([(1,)], (0, ()))], BadSchema, "kind")

    def test_layouts(self):
        self.refused(ONE, [([], (0, (0,)))], BadLayout, "size")
        self.refused(ONE, [([], (1001, (0,)))], BadLayout, "size")
        self.refused(ONE, [([], (1, ()))], BadLayout, "encodings")
        self.refused(ONE, [([], (1, (3,)))], BadLayout, "encoding")

    def test_numbers_of_records(self):
        layout = (1000, (2,))
        data = write_groups(ONE, [([(1,)] * 5000, layout)])
        self.assertEqual(read_groups(data), (ONE, [([(1,)] * 5000, layout)]))
        self.refused(ONE, [([(1,)] * 5001, layout)], BadLayout, "records")
        self.refused(ONE, [([(1,)] * 5000, layout), ([(1,)] * 5001, layout)], BadLayout, "records")

    def test_records(self):
        self.refused(ONE, [([(1,), ("a",)], (1, (0,)))], BadRecord, "value")
        self.refused(ONE, [([(1,), ()], (1, (0,)))], BadRecord, "fields")
        self.refused(FLAT, [([(1, None, None, True)], plain_layout(FLAT, 1))], BadRecord, "many")
        self.refused(ONE, [([(2147483648,)], (1, (0,)))], BadRecord, "value")
        self.refused(ONE, [([(True,)], (1, (0,)))], BadRecord, "value")

    def test_the_order_in_a_group(self):
        self.refused(ONE, [([("a",)] * 5001, (0, ()))], BadLayout, "size")
        self.refused(ONE, [([("a",)] * 5001, (1, ()))], BadLayout, "encodings")
        self.refused(ONE, [([("a",)] * 5001, (1, (9,)))], BadLayout, "encoding")
        self.refused(ONE, [([("a",)] * 5001, (1, (0,)))], BadLayout, "records")
        self.refused(ONE, [([("a",), ()], (1, (0,)))], BadRecord, "value")
        self.refused(ONE, [([(), ("a",)], (1, (0,)))], BadRecord, "fields")

    def test_the_order_of_the_groups(self):
        good = ([(1,)], (1, (0,)))
        self.refused(ONE, [good, ([("a",)], (1, (0,))), ([], (0, (0,)))], BadRecord, "value")
        self.refused(ONE, [good, ([], (1, (7,))), ([("a",)], (1, (0,)))], BadLayout, "encoding")
        self.refused(ONE, [good, ([(1,)] * 5001, (1, (0,))), ([], (0, (0,)))], BadLayout, "records")

    def test_no_error_for_a_page_of_many_entries(self):
        # Such a page is none that could be read, but point 7.4 names no error for it.
        schema = (("m", "many", "bool"),)
        data = write_groups(schema, [([((True,) * 20000,)], (1, (0,))), ([((True,) * 20001,)], (1, (0,)))])
        self.assertEqual(data[:4], SEAL)


if __name__ == "__main__":
    unittest.main()
