"""Point 7.5: a list of bytes is the file of one list of groups, or it is refused."""

import random
import unittest

from stripestack.errors import BadFile
from stripestack.fields import put_fields
from stripestack.files import Opened, plain_layout, read_groups, write_groups
from stripestack.numbers import put_number, put_word
from stripestack.pages import put_told
from tests.samples import DEEP, FLAT, NESTED, ONE, SCHEMAS, broken_forms, groups_of, layouts_of, records_of

SEAL = [83, 84, 75, 49]
SMALL = (
    (ONE, [([(5,), (-6,), (5,)], (2, (2,)))]),
    (ONE, [([(5,), (-6,)], (1, (0,))), ([], (3, (1,)))]),
    ((("t", "maybe", "text"),), [([("a",), (None,), ("",), ("a",)], (3, (1,)))]),
    ((("b", "many", "bool"),), [([((),), ((True, False, True),)], (2, (0,)))]),
    (
        (("id", "one", "int"), ("g", "many", (("t", "maybe", "text"), ("u", "one", "bool")))),
        [([(7, ()), (8, ((None, True), ("ab", False))), (8, ((None, False),))], (2, (2, 1, 0)))],
    ),
    (ONE, []),
)


def sealed(pages, footer):
    return SEAL + pages + footer + put_word(len(footer)) + SEAL


class ReadCase(unittest.TestCase):
    def refused(self, data):
        kept = list(data)
        with self.assertRaises(BadFile) as caught:
            read_groups(data)
        self.assertIs(type(caught.exception), BadFile)
        self.assertIsInstance(caught.exception.part, str)
        self.assertEqual(data, kept)

    def both_ways(self, schema, groups):
        data = write_groups(schema, groups)
        kept = list(data)
        found = read_groups(data)
        self.assertEqual(found, (schema, groups))
        # True and 1 are equal for Python, but their names are not.
        self.assertEqual(repr(found), repr((schema, groups)))
        self.assertEqual(data, kept)
        return data

    def refused_or_another_file(self, data):
        """Return True if the bytes are refused; else writing what is read makes exactly these bytes."""
        kept = list(data)
        try:
            schema, groups = read_groups(data)
        except BadFile as error:
            self.assertIs(type(error), BadFile)
            self.assertEqual(data, kept)
            return True
        self.assertEqual(write_groups(schema, groups), data)
        return False


class ReadingTest(ReadCase):
    def test_files_of_many_kinds(self):
        for seed, schema in enumerate(SCHEMAS):
            for counts in ((), (0,), (1,), (4,), (0, 3), (7, 0, 8, 2)):
                for sizes in ((1,), (2, 3), (1000, 1)):
                    with self.subTest(schema=schema, counts=counts, sizes=sizes):
                        self.both_ways(schema, groups_of(schema, counts, sizes, seed))

    def test_each_encoding_of_each_column(self):
        for schema in (FLAT, NESTED, DEEP):
            for layout in layouts_of(schema, 10):
                self.both_ways(schema, [(records_of(schema, 25, 3), layout)])

    def test_great_groups(self):
        self.both_ways(NESTED, [(records_of(NESTED, 2000, 9), layouts_of(NESTED, 1000)[1])])
        self.both_ways(ONE, [(records_of(ONE, 5000, 9), (999, (2,)))])
        self.both_ways(ONE, [([(1,)] * 5000, (1, (0,)))])

    def test_a_page_with_20000_entries(self):
        schema = (("m", "many", "bool"),)
        self.both_ways(schema, [([((True,) * 20000,)], (1, (0,)))])
        self.both_ways(schema, [([((True,) * 9999,), ((False,) * 10001,)], (2, (0,)))])

    def test_a_page_with_more_entries_is_refused(self):
        schema = (("m", "many", "bool"),)
        self.refused(write_groups(schema, [([((True,) * 20001,)], (1, (0,)))]))
        self.refused(write_groups(schema, [([((True,) * 10000,), ((False,) * 10001,)], (2, (0,)))]))

    def test_the_deepest_and_widest_schemas(self):
        kind = "int"
        for _ in range(5):
            kind = (("abcdefghij09", "many", kind),)
        self.both_ways(kind, [(records_of(kind, 20, 1), plain_layout(kind, 4))])
        wide = tuple([(f"f{number}", "maybe", "text") for number in range(12)])
        self.both_ways(wide, [(records_of(wide, 20, 1), plain_layout(wide, 4))])


class BrokenTest(ReadCase):
    def test_one_byte_changed_taken_away_or_put_in(self):
        for schema, groups in SMALL:
            data = self.both_ways(schema, groups)
            forms = broken_forms(data)
            refused = sum([self.refused_or_another_file(form) for form in forms])
            # Only what changes names, encodings or values alike in pages and footer is another file.
            self.assertGreater(refused, len(forms) * 9 // 10)

    def test_every_byte_at_every_place(self):
        schema, groups = SMALL[0]
        data = write_groups(schema, groups)
        for at in range(len(data)):
            for byte in range(256):
                if byte != data[at]:
                    self.refused_or_another_file(data[:at] + [byte] + data[at + 1:])

    def test_names_and_times_of_another_file(self):
        data = write_groups(ONE, [([], (1, (0,)))])
        at = data.index(97)
        self.assertFalse(self.refused_or_another_file(data[:at] + [98] + data[at + 1:]))
        self.assertFalse(self.refused_or_another_file(data[:at + 1] + [2] + data[at + 2:]))
        for code in (0, 31, 32, 37, 47, 58, 64, 65, 90, 95, 96, 123, 127, 200):
            self.refused(data[:at] + [code] + data[at + 1:])

    def test_bytes_changed_at_several_places(self):
        source = random.Random(4)
        for schema, groups in SMALL[:5]:
            data = write_groups(schema, groups)
            for _ in range(500):
                form = list(data)
                for _ in range(source.randrange(1, 5)):
                    form[source.randrange(len(form))] = source.choice((0, 1, 2, 3, 255, source.randrange(256)))
                self.refused_or_another_file(form)

    def test_parts_cut_out_doubled_or_exchanged(self):
        source = random.Random(5)
        for schema, groups in SMALL[:5]:
            data = write_groups(schema, groups)
            for _ in range(300):
                first, last = sorted([source.randrange(len(data) + 1), source.randrange(len(data) + 1)])
                part = data[first:last]
                for form in (data[:first] + data[last:], data[:last] + data[first:],
                             data[:first] + part[::-1] + data[last:]):
                    self.refused_or_another_file(form)

    def test_all_beginnings_and_ends(self):
        for schema, groups in SMALL:
            data = write_groups(schema, groups)
            for length in range(len(data)):
                self.refused(data[:length])
                self.refused(data[len(data) - length:])

    def test_random_bytes(self):
        source = random.Random(6)
        for _ in range(500):
            inner = [source.randrange(source.choice((4, 128, 256))) for _ in range(source.randrange(40))]
            self.refused_or_another_file(inner)
            self.refused_or_another_file(sealed([], inner))


class FooterCase(ReadCase):
    """What is wrong at the ends of a file or in its footer is refused before any page is asked for."""

    def refused(self, data):
        ReadCase.refused(self, data)
        with self.assertRaises(BadFile):
            Opened(data)


class EndsTest(FooterCase):
    def test_no_bytes_or_the_seal_alone(self):
        self.refused([])
        self.refused(SEAL)
        self.refused(SEAL + SEAL)
        self.refused([0] * 12)
        self.refused(SEAL + [0, 0, 0, 0] + SEAL)
        self.refused(SEAL[:3] + SEAL)
        self.refused(SEAL + [0, 0, 0] + SEAL)

    def test_each_byte_of_the_seals(self):
        data = write_groups(ONE, [([(1,)], (1, (0,)))])
        for at in (0, 1, 2, 3, -4, -3, -2, -1):
            form = list(data)
            form[at] = form[at] ^ 1
            self.refused(form)

    def test_the_length_of_the_footer(self):
        footer = [1, 1, 97, 0, 0, 0]
        self.assertEqual(read_groups(SEAL + footer + put_word(6) + SEAL), (ONE, []))
        for length in (0, 1, 5, 7, 8, 10, 11, 100, 65536, 2**31, 2**32 - 1):
            self.refused(SEAL + footer + put_word(length) + SEAL)
            self.refused(SEAL + [0] * 20 + footer + put_word(length) + SEAL)

    def test_bytes_between_pages_and_footer(self):
        footer = [1, 1, 97, 0, 0, 0]
        for between in ([0], [1, 2, 3]):
            self.refused(sealed(between, footer))

    def test_bytes_behind_the_footer(self):
        footer = [1, 1, 97, 0, 0, 0]
        for behind in ([0], [0, 1, 0], [255]):
            self.refused(sealed([], footer + behind))


class FooterTest(FooterCase):
    def footer_of(self, fields):
        return sealed([], put_fields(fields) + [0])

    def test_schemas_that_are_none(self):
        self.assertEqual(read_groups(self.footer_of(ONE)), (ONE, []))
        wrong = [
            (),
            (("a", "one", "int"), ("a", "one", "int")),
            (("", "one", "int"),),
            (("a" * 13, "one", "int"),),
            (("A", "one", "int"),),
            (("a b", "one", "int"),),
            (("g", "one", ()),),
            tuple([(f"f{number}", "one", "int") for number in range(13)]),
            (("g", "one", (("a", "one", "int"), ("a", "one", "int"))),),
        ]
        for schema in wrong:
            self.refused(self.footer_of(schema))

    def test_groups_that_lie_too_deep(self):
        kind = "int"
        for level in range(1, 8):
            kind = (("a", "one", kind),)
            if level <= 5:
                self.assertEqual(read_groups(self.footer_of(kind)), (kind, []))
            else:
                self.refused(self.footer_of(kind))
        self.refused(sealed([], [1, 1, 97, 0, 3] * 20000))
        self.refused(sealed([], [1, 1, 97, 0, 3] * 20000 + [1, 1, 97, 0, 0, 0]))

    def test_bytes_of_times_and_kinds(self):
        for byte in range(256):
            self.refused_or_another_file(sealed([], [1, 1, 97, byte, 0, 0]))
            self.refused_or_another_file(sealed([], [1, 1, 97, 0, byte, 0]))
            if byte > 2:
                self.refused(sealed([], [1, 1, 97, byte, 0, 0]))
            if byte > 3:
                self.refused(sealed([], [1, 1, 97, 0, byte, 0]))

    def group_footer(self, count, size, encodings, behind):
        schema = (("a", "one", "int"), ("b", "one", "bool"))
        return sealed([], put_fields(schema) + [1] + put_number(count) + put_number(size) + encodings + behind)

    def test_layouts_that_are_none(self):
        schema = (("a", "one", "int"), ("b", "one", "bool"))
        self.assertEqual(read_groups(self.group_footer(0, 1, [2, 0], [])), (schema, [([], (1, (2, 0)))]))
        for size in (0, 1001, 1 << 34):
            for count in (0, 1, 5000):
                self.refused(self.group_footer(count, size, [2, 0], []))
        for encodings in ([3, 0], [255, 0], [0, 1], [0, 2], [], [0], [0, 0, 0]):
            self.refused(self.group_footer(0, 1, encodings, []))

    def test_numbers_of_records_and_groups_that_are_too_great(self):
        for count in (1, 5000, 5001, 1 << 34):
            self.refused(self.group_footer(count, 1000, [0, 0], []))
            self.refused(self.group_footer(count, 1, [0, 0], [0] * 30000))
        for many in (2, 3, 127, 128, 1 << 34):
            self.refused(sealed([], put_fields(ONE) + put_number(many) + [0, 1, 0]))

    def test_a_group_of_more_than_5000_records(self):
        schema = (("m", "maybe", "int"),)
        empty = [([(None,)] * 5000, (1000, (0,)))]
        data = write_groups(schema, empty)
        self.assertEqual(read_groups(data), (schema, empty))
        page = put_number(1000) + put_number(2000) + [0]
        for count, last in ((5000, []), (5001, [1, 3, 0])):
            described = put_number(count) + put_number(1000) + [0] + [len(page), 0] * 5 + ([3, 0] if last else [])
            form = sealed(page * 5 + last, put_fields(schema) + [1] + described)
            if last:
                self.refused(form)
            else:
                self.assertEqual(form, data)


class OtherFormsTest(ReadCase):
    """Bytes from which the same records could be read are no file if they are written in another form."""

    def file_of(self, schema, page, told, encoding, count):
        column = (("a",), schema[0][2], 1 if schema[0][1] == "maybe" else 0, 0)
        described = put_number(count) + [10, encoding] + put_number(len(page)) + put_told(column, told)
        return sealed(page, put_fields(schema) + [1] + described)

    def test_levels_in_other_pieces(self):
        schema = (("a", "maybe", "int"),)
        told = (0, None, None, 0)
        good = self.file_of(schema, [5, 10, 0], told, 0, 5)
        self.assertEqual(read_groups(good), (schema, [([(None,)] * 5, (10, (0,)))]))
        for levels in ([11, 0], [8, 0, 3, 0], [2, 0, 8, 0], [3, 0, 8, 0], [3, 0, 9, 0], [4, 0, 6, 0]):
            self.refused(self.file_of(schema, [5] + levels, told, 0, 5))

    def test_dictionaries_in_another_order_or_with_a_value_twice(self):
        schema = (("a", "one", "text"),)
        records = [("x",), ("y",)]
        data = write_groups(schema, [(records, (10, (1,)))])
        page = [2, 2, 1, 120, 1, 121, 5, 2]
        told = (2, "x", "y", 2**(120 * 2654435761 % 2**32 // 2**27) + 2**(121 * 2654435761 % 2**32 // 2**27))
        self.assertEqual(self.file_of(schema, page, told, 1, 2), data)
        self.refused(self.file_of(schema, [2, 2, 1, 121, 1, 120, 5, 1], told, 1, 2))
        self.refused(self.file_of(schema, [2, 3, 1, 120, 1, 121, 1, 120, 5, 4], told, 1, 2))
        self.refused(self.file_of(schema, [2, 3, 1, 120, 1, 121, 1, 122, 5, 4], told, 1, 2))
        for wrong in ((1, "x", "y", told[3]), (2, "w", "y", told[3]), (2, "x", "z", told[3]), (2, "x", "y", 0),
                      (2, "x", "y", told[3] ^ 1), (0, None, None, 0)):
            self.refused(self.file_of(schema, page, wrong, 1, 2))

    def test_numbers_of_records_that_the_pages_do_not_have(self):
        for count in (1, 3, 9, 10):
            page = [2, 0, 0, 0, 0, 0, 0, 0, 0]
            self.refused(self.file_of(ONE, page, (2, 0, 0, 1), 0, count))
        self.assertEqual(read_groups(self.file_of(ONE, page, (2, 0, 0, 1), 0, 2)), (ONE, [([(0,)] * 2, (10, (0,)))]))

    def test_pages_of_columns_that_do_not_fit_together(self):
        schema = (("g", "maybe", (("x", "one", "int"), ("y", "one", "int"))),)
        data = write_groups(schema, [([((1, 2),), (None,)], (10, (2, 2)))])
        self.assertEqual(data[4:14], [2, 5, 1, 2, 2, 5, 1, 4] + data[12:14])
        other = data[:4] + [2, 5, 2, 2] + data[8:]
        self.refused(other)

    def test_a_page_that_does_not_begin_with_a_record(self):
        schema = (("b", "many", "bool"),)
        data = write_groups(schema, [([((True,),), ((True,),)], (2, (0,)))])
        self.assertEqual(data[4:10], [2, 5, 0, 5, 3, 3])
        for repetitions in (1, 2, 3):
            self.refused(data[:6] + [repetitions] + data[7:])


if __name__ == "__main__":
    unittest.main()
