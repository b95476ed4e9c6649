"""Points 6.1 and 6.2: the bytes of a page, and what is told of it."""

import unittest

from stripestack.errors import BadFile
from stripestack.levels import put_levels
from stripestack.numbers import put_number, put_word
from stripestack.pages import has_mark, mark_of, put_page, put_told, take_page, take_told, told_of
from stripestack.schema import columns_of
from stripestack.shred import shred
from stripestack.values import allowed, put_one, put_values
from tests.samples import ENCODINGS, SCHEMAS, TEXTS, records_of

LEAST = -2147483648
GREATEST = 2147483647
VALUES = {"int": [3, -5, 3, GREATEST, 0, LEAST], "bool": [True, False, True, True], "text": ["b", "", "b", "a~"]}


def page_by_the_words(column, entries, encoding):
    _, kind, most_definition, most_repetition = column
    values = [value for _, _, value in entries if value is not None]
    return (
        put_number(len(entries))
        + put_levels([entry[0] for entry in entries], most_repetition)
        + put_levels([entry[1] for entry in entries], most_definition)
        + put_values(kind, values, encoding)
    )


def mark_by_the_words(kind, value):
    if kind == "text":
        number = 0
        for sign in value:
            number = (31 * number + ord(sign)) % 2**32
        value = number
    return value * 2654435761 % 2**32 // 134217728


def sieve_by_the_words(kind, values):
    return sum([2**mark for mark in {mark_by_the_words(kind, value) for value in values}])


def entry_lists(kind, most_definition, most_repetition):
    """Return lists of entries with no, some and all of the values, of records with one or many values."""
    values = VALUES[kind]
    lists = [[]]
    repetitions = [at % (most_repetition + 1) for at in range(12)]
    lists.append([(repetition, most_definition, values[at % len(values)]) for at, repetition in enumerate(repetitions)])
    lists.append([(0, most_definition, values[0])])
    if most_definition > 0:
        lists.append([(repetition, at % most_definition, None) for at, repetition in enumerate(repetitions)])
        lists.append([(0, 0, None)])
        mixed = []
        for at, repetition in enumerate(repetitions):
            definition = at % (most_definition + 1)
            mixed.append((repetition, definition, values[at % len(values)] if definition == most_definition else None))
        lists.append(mixed)
    return lists


def all_pages():
    for kind in VALUES:
        for most_repetition in range(3):
            for most_definition in range(most_repetition, 4):
                column = (("a", "b"), kind, most_definition, most_repetition)
                for entries in entry_lists(kind, most_definition, most_repetition):
                    yield column, entries


class PagesCase(unittest.TestCase):
    def refused(self, take, *arguments):
        with self.assertRaises(BadFile) as caught:
            take(*arguments)
        self.assertIsInstance(caught.exception.part, str)

    def both_ways(self, column, entries, encoding):
        kept = list(entries)
        data = page_by_the_words(column, entries, encoding)
        self.assertEqual(put_page(column, entries, encoding), data)
        self.assertEqual(entries, kept)
        found = take_page(column, list(data), encoding)
        self.assertEqual(found, entries)
        self.assertEqual([type(entry[2]) for entry in found], [type(entry[2]) for entry in entries])
        return data


class PageBytesTest(PagesCase):
    def test_all_kinds_of_columns(self):
        for column, entries in all_pages():
            for encoding in allowed(column[1]):
                with self.subTest(column=column, entries=entries, encoding=encoding):
                    data = self.both_ways(column, entries, encoding)
                    for length in range(len(data)):
                        self.refused(take_page, column, data[:length], encoding)
                    for byte in (0, 1, 255):
                        self.refused(take_page, column, data + [byte], encoding)

    def test_columns_of_records(self):
        for schema in SCHEMAS:
            columns = shred(schema, records_of(schema, 30, 5))
            for column in columns_of(schema):
                for encoding in ENCODINGS[column[1]]:
                    self.both_ways(column, columns[column[0]], encoding)

    def test_bytes(self):
        column = (("tags",), "int", 1, 1)
        entries = [(0, 1, 5), (1, 1, 6), (0, 0, None)]
        self.assertEqual(put_page(column, entries, 0), [3, 7, 2, 7, 3, 5, 0, 0, 0, 6, 0, 0, 0])
        self.assertEqual(put_page(column, entries, 1), [3, 7, 2, 7, 3, 2, 5, 0, 0, 0, 6, 0, 0, 0, 5, 2])
        self.assertEqual(put_page(column, entries, 2), [3, 7, 2, 7, 3, 10, 2])
        self.assertEqual(put_page((("a",), "bool", 0, 0), [(0, 0, True), (0, 0, False)], 0), [2, 1])
        self.assertEqual(put_page((("a",), "text", 1, 0), [(0, 0, None)] * 4, 0), [4, 8, 0])

    def test_exactly_the_entries_with_the_greatest_definition_have_a_value(self):
        column = (("a",), "int", 2, 0)
        data = [3] + put_levels([2, 1, 2], 2) + put_values("int", [7, 8], 0)
        self.assertEqual(take_page(column, data, 0), [(0, 2, 7), (0, 1, None), (0, 2, 8)])
        self.refused(take_page, column, [3] + put_levels([2, 1, 2], 2) + put_values("int", [7], 0), 0)
        self.refused(take_page, column, [3] + put_levels([2, 1, 2], 2) + put_values("int", [7, 8, 9], 0), 0)

    def test_levels_too_great_are_refused(self):
        column = (("a",), "int", 2, 2)
        self.refused(take_page, column, [1] + put_levels([3], 3) + put_levels([0], 2), 0)
        self.refused(take_page, column, [1] + put_levels([0], 2) + put_levels([3], 3), 0)

    def test_no_bytes_at_all_are_refused(self):
        self.refused(take_page, (("a",), "int", 0, 0), [], 0)
        self.refused(take_page, (("a",), "int", 0, 0), [128, 0], 0)


class ManyEntriesTest(PagesCase):
    def test_20000_entries(self):
        column = (("a",), "int", 1, 0)
        entries = [(0, 0, None)] * 20000
        self.both_ways(column, entries, 0)
        self.both_ways((("a",), "bool", 0, 0), [(0, 0, True)] * 20000, 0)

    def test_more_than_20000_entries_are_refused(self):
        column = (("a",), "int", 1, 0)
        for count in (20001, 20002, 100000, (1 << 35) - 1):
            self.refused(take_page, column, put_number(count) + put_number(2 * count)[:5] + [0], 0)
        self.refused(take_page, (("a",), "bool", 0, 0), put_number(20001) + [0] * 2501, 0)
        self.refused(take_page, (("a",), "text", 0, 0), put_number(20001) + [0] * 20001, 0)


class MarksTest(PagesCase):
    def test_marks_of_ints(self):
        for value in (0, 1, -1, 2, -2, 31, 32, 1000, -1000, 123456789, LEAST, GREATEST):
            self.assertEqual(mark_of("int", value), mark_by_the_words("int", value), value)
        self.assertEqual([mark_of("int", value) for value in (0, 1, -1, 2)], [0, 19, 12, 7])

    def test_marks_of_bools(self):
        self.assertEqual(mark_of("bool", False), 0)
        self.assertEqual(mark_of("bool", True), 19)

    def test_marks_of_texts(self):
        for value in (*TEXTS, "ba", "stripestack", "~" * 60):
            self.assertEqual(mark_of("text", value), mark_by_the_words("text", value), value)
        self.assertEqual(mark_of("text", ""), 0)
        self.assertEqual(mark_of("text", "!"), mark_of("int", 33))
        self.assertEqual(mark_of("text", "ab"), mark_of("int", 31 * 97 + 98))

    def test_marks_are_from_0_to_31(self):
        self.assertEqual({mark_of("int", value) for value in range(-500, 500)}, set(range(32)))

    def test_a_sieve_has_its_marks(self):
        self.assertEqual([mark for mark in range(32) if has_mark(0, mark)], [])
        self.assertEqual([mark for mark in range(32) if has_mark(2**32 - 1, mark)], list(range(32)))
        self.assertEqual([mark for mark in range(32) if has_mark(1 + 8 + 2**31, mark)], [0, 3, 31])
        self.assertIs(has_mark(4, 2), True)
        self.assertIs(has_mark(4, 3), False)


class ToldTest(PagesCase):
    def test_all_kinds_of_columns(self):
        for column, entries in all_pages():
            kept = list(entries)
            values = [value for _, _, value in entries if value is not None]
            wanted = (0, None, None, 0)
            if values:
                state = 2 if len(values) == len(entries) else 1
                wanted = (state, min(values), max(values), sieve_by_the_words(column[1], values))
            with self.subTest(column=column, entries=entries):
                self.assertEqual(told_of(column, entries), wanted)
                self.assertEqual(entries, kept)
                self.both_ways(column, wanted)

    def both_ways(self, column, told):
        kind = column[1]
        data = [told[0]]
        if told[0] > 0:
            data = data + put_one(kind, told[1]) + put_one(kind, told[2]) + put_word(told[3])
        self.assertEqual(put_told(column, told), data)
        for before in ([], [9]):
            for behind in ([], [0], [255, 3]):
                found, at = take_told(column, before + data + behind, len(before))
                self.assertEqual((found, at), (told, len(before) + len(data)))
                self.assertEqual([type(part) for part in found], [type(part) for part in told])
        for length in range(len(data)):
            self.refused(take_told, column, data[:length], 0)

    def test_the_states(self):
        column = (("a",), "int", 1, 0)
        self.assertEqual(told_of(column, []), (0, None, None, 0))
        self.assertEqual(told_of(column, [(0, 0, None)]), (0, None, None, 0))
        self.assertEqual(told_of(column, [(0, 0, None), (0, 1, 0)]), (1, 0, 0, 1))
        self.assertEqual(told_of(column, [(0, 1, 0), (0, 1, 0)]), (2, 0, 0, 1))

    def test_least_and_greatest(self):
        ints = [(0, 0, value) for value in (5, -7, 1, LEAST, GREATEST)]
        self.assertEqual(told_of((("a",), "int", 0, 0), ints)[1:3], (LEAST, GREATEST))
        texts = [(0, 0, value) for value in ("b", "B", "a~", "ab", "a", "~")]
        self.assertEqual(told_of((("a",), "text", 0, 0), texts)[1:3], ("B", "~"))
        texts = [(0, 0, value) for value in ("ab", "a", "", "aa")]
        self.assertEqual(told_of((("a",), "text", 0, 0), texts)[1:3], ("", "ab"))
        column = (("a",), "bool", 0, 0)
        self.assertEqual(told_of(column, [(0, 0, True), (0, 0, False)]), (2, False, True, 1 + 2**19))
        self.assertEqual(told_of(column, [(0, 0, True), (0, 0, True)]), (2, True, True, 2**19))
        self.assertIs(told_of(column, [(0, 0, True)])[1], True)

    def test_the_sieve_has_each_mark_once(self):
        column = (("a",), "int", 0, 0)
        self.assertEqual(told_of(column, [(0, 0, 1)] * 3 + [(0, 0, 0)] * 2)[3], 2**19 + 1)
        entries = [(0, 0, value) for value in range(1000)]
        self.assertEqual(told_of(column, entries)[3], 2**32 - 1)

    def test_bytes(self):
        column = (("a",), "text", 1, 0)
        self.assertEqual(put_told(column, (0, None, None, 0)), [0])
        self.assertEqual(put_told(column, (1, "a", "bc", 258)), [1, 1, 97, 2, 98, 99, 2, 1, 0, 0])
        self.assertEqual(put_told((("a",), "bool", 0, 0), (2, False, True, 2**31)), [2, 0, 1, 0, 0, 0, 128])

    def test_a_state_above_2_is_refused(self):
        for kind in VALUES:
            for state in (3, 4, 127, 128, 129, 130, 255):
                self.refused(take_told, (("a",), kind, 0, 0), [state] + [0] * 20, 0)

    def test_wrong_values_are_refused(self):
        self.refused(take_told, (("a",), "bool", 0, 0), [2, 2, 1, 0, 0, 0, 0], 0)
        self.refused(take_told, (("a",), "bool", 0, 0), [2, 1, 2, 0, 0, 0, 0], 0)
        self.refused(take_told, (("a",), "text", 0, 0), [2, 1, 37, 1, 97, 0, 0, 0, 0], 0)
        self.refused(take_told, (("a",), "text", 0, 0), [2, 1, 97, 1, 37, 0, 0, 0, 0], 0)


if __name__ == "__main__":
    unittest.main()
