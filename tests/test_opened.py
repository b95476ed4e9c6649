"""The class Opened: what a footer tells, and pages and groups read one by one."""

import unittest

from stripestack.errors import BadFile, Refused
from stripestack.files import Opened, plain_layout, write_groups
from stripestack.pages import put_page, told_of
from stripestack.schema import columns_of
from stripestack.shred import shred
from tests.samples import FLAT, NESTED, ONE, SCHEMAS, broken_forms, groups_of, records_of


def spoilt(data, opened, fill):
    """Return a file with all bytes of its pages replaced."""
    end = max([place + length for _, _, described in opened.groups for pages in described
               for place, length, _ in pages])
    return data[:4] + [fill] * (end - 4) + data[end:]


class FooterTest(unittest.TestCase):
    def test_files_of_many_kinds(self):
        for seed, schema in enumerate(SCHEMAS):
            groups = groups_of(schema, (7, 0, 8, 2), (2, 3, 1000, 1), seed)
            data = write_groups(schema, groups)
            kept = list(data)
            opened = Opened(data)
            self.assertEqual(opened.schema, schema)
            self.assertEqual([group[:2] for group in opened.groups], [(len(records), lay) for records, lay in groups])
            place = 4
            for (_, _, described), (records, (size, encodings)) in zip(opened.groups, groups):
                self.assertEqual(len(described), len(columns_of(schema)))
                for column, encoding, pages in zip(columns_of(schema), encodings, described):
                    wanted = []
                    for first in range(0, len(records), size):
                        entries = shred(schema, records[first:first + size])[column[0]]
                        page = put_page(column, entries, encoding)
                        self.assertEqual(data[place:place + len(page)], page)
                        wanted.append((place, len(page), told_of(column, entries)))
                        place += len(page)
                    self.assertEqual(pages, wanted)
            self.assertEqual(data, kept)

    def test_no_groups_and_no_records(self):
        opened = Opened(write_groups(ONE, []))
        self.assertEqual((opened.schema, opened.groups), (ONE, []))
        opened = Opened(write_groups(ONE, [([], (7, (2,)))]))
        self.assertEqual((opened.schema, opened.groups), (ONE, [(0, (7, (2,)), [[]])]))

    def test_the_pages_are_not_looked_into(self):
        data = write_groups(NESTED, groups_of(NESTED, (7, 3), (2,), 1))
        opened = Opened(data)
        for fill in (0, 37, 255):
            other = Opened(spoilt(data, opened, fill))
            self.assertEqual((other.schema, other.groups), (opened.schema, opened.groups))

    def test_broken_bytes_are_read_or_refused(self):
        data = write_groups(FLAT, groups_of(FLAT, (3,), (2,), 1))
        for form in broken_forms(data):
            try:
                opened = Opened(form)
            except BadFile as error:
                self.assertIsInstance(error.part, str)
            else:
                place = 4
                for pages in [pages for _, _, described in opened.groups for pages in described]:
                    for found, length, _ in pages:
                        self.assertEqual(found, place)
                        place += length
                self.assertLessEqual(place, len(form) - 8)

    def test_bytes_that_are_no_file(self):
        seal = [83, 84, 75, 49]
        data = write_groups(ONE, [([(1,)], (1, (0,)))])
        for form in ([], seal, seal + seal, data[1:], data[:-1], data[:-4], data[4:], data[:4] + data[5:],
                     data[:4] + [0] + data[4:], data + data, [1] * 40):
            with self.assertRaises(BadFile):
                Opened(form)


class EntriesTest(unittest.TestCase):
    def test_files_of_many_kinds(self):
        for seed, schema in enumerate(SCHEMAS):
            groups = groups_of(schema, (7, 0, 8, 2), (2, 3, 1000, 1), seed)
            opened = Opened(write_groups(schema, groups))
            for at, (records, (size, _)) in enumerate(groups):
                self.assertEqual(opened.group_records(at), records)
                for number, column in enumerate(columns_of(schema)):
                    for page in range(len(opened.groups[at][2][number])):
                        wanted = shred(schema, records[page * size:(page + 1) * size])[column[0]]
                        self.assertEqual(opened.entries(at, number, page), wanted)
                        self.assertEqual(repr(opened.entries(at, number, page)), repr(wanted))

    def test_one_page_is_read_without_the_others(self):
        records = records_of(NESTED, 6, 2)
        data = write_groups(NESTED, [(records, plain_layout(NESTED, 2))])
        opened = Opened(data)
        for column in range(7):
            for page in range(3):
                place, length, _ = opened.groups[0][2][column][page]
                other = spoilt(data, opened, 255)
                other = other[:place] + data[place:place + length] + other[place + length:]
                self.assertEqual(Opened(other).entries(0, column, page), opened.entries(0, column, page))

    def refused(self, take, *arguments):
        with self.assertRaises(Refused):
            take(*arguments)

    def test_numbers_of_no_page(self):
        opened = Opened(write_groups(FLAT, groups_of(FLAT, (5, 0, 2), (2,), 1)))
        self.assertEqual(len(opened.entries(0, 3, 2)), 1)
        for group in (-1, -2, -3, -4, 3, 4, 1000):
            self.refused(opened.entries, group, 0, 0)
            self.refused(opened.group_records, group)
        for column in (-1, -2, -4, -5, 4, 5, 1000):
            self.refused(opened.entries, 0, column, 0)
            self.refused(opened.entries, 1, column, 0)
        for page in (-1, -2, -3, -4, 3, 4, 1000):
            self.refused(opened.entries, 0, 0, page)
        self.refused(opened.entries, 1, 0, 0)
        self.refused(opened.entries, 1, 0, -1)
        self.refused(opened.entries, 2, 0, 1)

    def test_a_file_without_groups_has_no_page(self):
        opened = Opened(write_groups(ONE, []))
        for number in (-1, 0, 1):
            self.refused(opened.entries, number, 0, 0)
            self.refused(opened.group_records, number)

    def test_pages_whose_bytes_are_spoilt(self):
        data = write_groups(NESTED, groups_of(NESTED, (5, 3), (2,), 1))
        for fill in (0, 1, 2, 37, 128, 255):
            opened = Opened(spoilt(data, Opened(data), fill))
            for group in (0, 1):
                self.refused(opened.group_records, group)
                for column in range(7):
                    for page in range(len(opened.groups[group][2][column])):
                        self.refused(opened.entries, group, column, page)

    def test_one_byte_of_a_page_is_spoilt(self):
        records = [(1, "a", (2, 3), True), (4, None, (), False), (5, "b", (6,), True)]
        for encodings in ((0, 0, 0, 0), (1, 1, 1, 0), (2, 1, 2, 0)):
            data = write_groups(FLAT, [(records, (2, encodings))])
            opened = Opened(data)
            for column in range(4):
                for page, (place, length, told) in enumerate(opened.groups[0][2][column]):
                    for at in range(place, place + length):
                        for byte in (0, 1, 2, 3, 37, 128, 255, data[at] ^ 1, data[at] ^ 2):
                            other = Opened(data[:at] + [byte] + data[at + 1:])
                            self.spoilt_or_none(other, opened, column, page, told)

    def spoilt_or_none(self, other, opened, column, page, told):
        """What is read from a spoilt page is refused, or it is as the footer tells."""
        try:
            found = other.entries(0, column, page)
        except Refused:
            self.refused(other.group_records, 0)
            return
        whole = columns_of(FLAT)[column]
        self.assertEqual(told_of(whole, found), told)
        many = [entry[0] for entry in opened.entries(0, column, page)].count(0)
        self.assertEqual([entry[0] for entry in found].count(0), many)

    def test_pages_that_are_good_but_not_of_this_place(self):
        # The second page has the entries of one record, the first those of two.
        data = write_groups(ONE, [([(1,), (1,), (1,)], (2, (1,)))])
        opened = Opened(data)
        (first, length, _), (second, other_length, _) = opened.groups[0][2][0]
        self.assertEqual(length, other_length)
        first_page = data[first:first + length]
        second_page = data[second:second + length]
        other = Opened(data[:first] + second_page + first_page + data[second + length:])
        self.refused(other.entries, 0, 0, 0)
        self.refused(other.entries, 0, 0, 1)
        self.refused(other.group_records, 0)

    def test_pages_in_another_form(self):
        # The same entries could be read from a dictionary in another order, or from a piece instead of a run.
        schema = (("a", "maybe", "text"),)
        forms = (
            ([("x",), ("y",), (None,)], [3, 7, 3, 2, 1, 120, 1, 121, 5, 2], [3, 7, 3, 2, 1, 121, 1, 120, 5, 1]),
            ([(None,)] * 8, [8, 16, 0, 0], [8, 17, 0, 0]),
        )
        for records, page, other in forms:
            data = write_groups(schema, [(records, (10, (1,)))])
            self.assertEqual(data[4:4 + len(page)], page)
            opened = Opened(data[:4] + other + data[4 + len(page):])
            self.refused(opened.entries, 0, 0, 0)
            self.refused(opened.group_records, 0)


if __name__ == "__main__":
    unittest.main()
