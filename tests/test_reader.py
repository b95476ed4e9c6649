"""Points 9.1 and 9.2: reading with and without conditions, and the pages that are looked into."""

import copy
import itertools
import random
import unittest

from stripestack.conditions import condition_paths, holds, verdict
from stripestack.errors import BadCondition, BadFile, NoColumn, Refused
from stripestack.files import Opened, plain_layout, write_groups
from stripestack.reader import read, touched_pages
from stripestack.records import project_record
from stripestack.schema import columns_of, paths_of, project_schema
from stripestack.shred import shred
from tests.samples import FLAT, NESTED, ONE, SCHEMAS, broken_forms, groups_of, value_of

COMPARISONS = ("lt", "le", "eq", "ge", "gt")
PAIR = (("a", "one", "int"), ("b", "maybe", "text"))
A, B = ("a",), ("b",)


def condition_of(schema, levels, source):
    """Return a condition of at most so many levels."""
    if levels > 1 and source.random() < 0.6:
        word = source.choice(("and", "or", "not"))
        return (word,) + tuple([condition_of(schema, levels - 1, source) for _ in range(1 if word == "not" else 2)])
    path, kind, _, _ = source.choice(columns_of(schema))
    if source.random() < 0.3:
        return ("has", path)
    return (source.choice(COMPARISONS), path, value_of(kind, source))


def values_of(schema, records):
    """Return the dict from the paths to the values that are in some records."""
    columns = shred(schema, records)
    return {path: [entry[2] for entry in columns[path] if entry[2] is not None] for path in columns}


def read_by_the_words(schema, groups, paths, condition):
    wanted = project_schema(schema, paths)
    records = [record for group, _ in groups for record in group]
    if condition is not None:
        records = [record for record in records if holds(condition, values_of(schema, [record]))]
    return [project_record(schema, wanted, record) for record in records]


def touched_by_the_words(schema, data, groups, paths, condition):
    asked = [number for number, path in enumerate(paths_of(schema)) if path in paths]
    kinds = {column[0]: column[1] for column in columns_of(schema)}
    touched = set()
    for group, (records, (size, _)) in enumerate(groups):
        described = Opened(data).groups[group][2]
        for page, first in enumerate(range(0, len(records), size)):
            word, held = "always", True
            if condition is not None:
                told = {path: described[at][page][2] for at, path in enumerate(paths_of(schema))}
                word = verdict(condition, kinds, told)
                part = records[first:first + size]
                held = any([holds(condition, values_of(schema, [record])) for record in part])
            if word == "perhaps":
                touched |= {(group, paths_of(schema).index(path), page) for path in condition_paths(condition)}
            if word == "always" or word == "perhaps" and held:
                touched |= {(group, column, page) for column in asked}
    return sorted(touched)


class ReaderCase(unittest.TestCase):
    def check(self, schema, data, groups, paths, condition):
        kept = copy.deepcopy((data, paths, condition))
        wanted = read_by_the_words(schema, groups, paths, condition)
        found = read(data, paths, condition=condition)
        self.assertEqual(found, wanted)
        self.assertEqual(repr(found), repr(wanted))
        touched = touched_pages(data, paths, condition=condition)
        self.assertEqual(touched, touched_by_the_words(schema, data, groups, paths, condition))
        self.assertEqual((data, paths, condition), kept)
        return wanted, touched


class ReadingTest(ReaderCase):
    def test_without_a_condition(self):
        for seed, schema in enumerate(SCHEMAS):
            groups = groups_of(schema, (7, 0, 8, 2), (2, 3, 1000, 1), seed)
            data = write_groups(schema, groups)
            paths = paths_of(schema)
            chosen = [[path] for path in paths] + [paths, paths[::-1], paths[:2] + paths[:1]]
            for asked in chosen:
                self.check(schema, data, groups, asked, None)
            self.assertEqual(read(data, paths), [record for records, _ in groups for record in records])

    def test_with_many_conditions(self):
        source = random.Random(8)
        for seed, schema in enumerate(SCHEMAS):
            groups = groups_of(schema, (7, 0, 8, 2), (2, 3, 1000, 1), seed)
            data = write_groups(schema, groups)
            paths = paths_of(schema)
            for _ in range(150):
                asked = [source.choice(paths) for _ in range(source.randrange(1, 4))]
                self.check(schema, data, groups, asked, condition_of(schema, source.randrange(1, 5), source))

    def test_no_groups_and_no_records(self):
        for groups in ([], [([], (3, (0,)))], [([], (3, (0,))), ([], (1, (2,)))]):
            data = write_groups(ONE, groups)
            for condition in (None, ("has", ("a",)), ("not", ("has", ("a",)))):
                self.assertEqual(read(data, [("a",)], condition=condition), [])
                self.assertEqual(touched_pages(data, [("a",)], condition=condition), [])

    def test_records_that_are_left_out_leave_the_others_in_order(self):
        records = [(number, None if number % 3 else "t") for number in range(20)]
        groups = [(records[:11], (4, (2, 1))), (records[11:], (3, (0, 0)))]
        data = write_groups(PAIR, groups)
        found = read(data, [A], condition=("has", B))
        self.assertEqual(found, [(number,) for number in range(0, 20, 3)])
        found = read(data, [B, A], condition=("and", ("ge", A, 5), ("not", ("gt", A, 12))))
        self.assertEqual(found, records[5:13])

    def test_the_eight_levels(self):
        condition = ("eq", A, 3)
        for _ in range(7):
            condition = ("not", condition)
        groups = [([(number, None) for number in range(6)], (2, (0, 0)))]
        self.check(PAIR, write_groups(PAIR, groups), groups, [A], condition)


class TouchedTest(ReaderCase):
    """Pages of two records: 1 and 2 with texts, 3 with a text and 4 without, 5 and 6 without, 7 and 9 with texts."""

    def setUp(self):
        records = [(1, "a"), (2, "b"), (3, "c"), (4, None), (5, None), (6, None), (7, "x"), (9, "z")]
        self.groups = [(records, (2, (0, 0)))]
        self.data = write_groups(PAIR, self.groups)

    def touched(self, paths, condition, wanted, records):
        found, touched = self.check(PAIR, self.data, self.groups, paths, condition)
        self.assertEqual(touched, [(0, column, page) for column, page in wanted])
        self.assertEqual(found, records)

    def test_without_a_condition_all_pages_of_the_asked_columns(self):
        self.touched([A], None, [(0, 0), (0, 1), (0, 2), (0, 3)], [(1,), (2,), (3,), (4,), (5,), (6,), (7,), (9,)])
        self.assertEqual(touched_pages(self.data, [B]), [(0, 1, page) for page in range(4)])
        self.assertEqual(touched_pages(self.data, [B, A, B]), [(0, at, page) for at in (0, 1) for page in range(4)])

    def test_never_looks_into_no_page(self):
        self.touched([A], ("gt", A, 9), [], [])
        self.touched([A, B], ("and", ("lt", A, 3), ("gt", A, 4)), [], [])
        self.touched([B], ("eq", A, 100), [], [])

    def test_always_looks_into_the_asked_pages_alone(self):
        self.touched([A], ("has", A), [(0, page) for page in range(4)], [(n,) for n in (1, 2, 3, 4, 5, 6, 7, 9)])
        self.touched([B], ("le", A, 2), [(1, 0)], [("a",), ("b",)])
        self.touched([A], ("not", ("has", B)), [(0, 1), (0, 2), (1, 1)], [(4,), (5,), (6,)])

    def test_perhaps_looks_into_the_pages_of_the_condition_too(self):
        self.touched([A], ("eq", B, "b"), [(0, 0), (1, 0)], [(2,)])
        self.touched([B], ("eq", A, 7), [(0, 3), (1, 3)], [("x",)])
        self.touched([A], ("eq", A, 7), [(0, 3)], [(7,)])
        self.touched([A], ("has", B), [(0, 0), (0, 1), (0, 3), (1, 1)], [(1,), (2,), (3,), (7,), (9,)])
        self.touched([B], ("or", ("eq", A, 2), ("eq", B, "z")), [(0, 0), (0, 3), (1, 0), (1, 3)], [("b",), ("z",)])

    def test_perhaps_that_holds_for_no_record_looks_into_no_others(self):
        records = [(1, "a"), (2, "c"), (8, "a"), (9, "c")]
        groups = [(records, (2, (0, 0)))]
        data = write_groups(PAIR, groups)
        condition = ("and", ("gt", B, "a"), ("lt", B, "c"))
        self.assertEqual(read(data, [A], condition=condition), [])
        self.assertEqual(touched_pages(data, [A], condition=condition), [(0, 1, 0), (0, 1, 1)])
        self.assertEqual(touched_pages(data, [A, B], condition=condition), [(0, 1, 0), (0, 1, 1)])
        self.check(PAIR, data, groups, [A], condition)

    def test_all_columns_of_a_condition_that_is_perhaps(self):
        condition = ("or", ("eq", A, 100), ("eq", B, "c"))
        self.touched([A], condition, [(0, 1), (1, 1)], [(3,)])
        self.touched([B], condition, [(0, 1), (1, 1)], [("c",)])

    def test_several_groups_in_ascending_order(self):
        groups = self.groups + [([(1, None), (7, "a")], (1, (2, 1))), ([], (1, (0, 0))), ([(7, None)], (5, (0, 0)))]
        data = write_groups(PAIR, groups)
        found = touched_pages(data, [B, A], condition=("eq", A, 7))
        self.assertEqual(found, [(0, 0, 3), (0, 1, 3), (1, 0, 1), (1, 1, 1), (3, 0, 0), (3, 1, 0)])
        self.check(PAIR, data, groups, [B], ("has", B))

    def test_pages_that_are_not_touched_may_be_spoilt(self):
        for paths, condition in (([A], None), ([B], None), ([A], ("eq", B, "b")), ([B], ("le", A, 2)),
                                 ([A], ("has", B)), ([A, B], ("gt", A, 9)), ([B], ("not", ("has", B)))):
            touched = touched_pages(self.data, paths, condition=condition)
            other = list(self.data)
            for column, page in itertools.product(range(2), range(4)):
                if (0, column, page) not in touched:
                    place, length, _ = Opened(self.data).groups[0][2][column][page]
                    other[place:place + length] = [255] * length
            self.assertEqual(read(other, paths, condition=condition), read(self.data, paths, condition=condition))
            self.assertEqual(touched_pages(other, paths, condition=condition), touched)


class ErrorsTest(ReaderCase):
    def setUp(self):
        self.data = write_groups(PAIR, [([(1, "a"), (2, None)], plain_layout(PAIR, 1))])

    def refused(self, data, paths, condition, kind, attribute, word):
        for take in (read, touched_pages):
            with self.assertRaises(kind) as caught:
                take(data, paths, condition=condition)
            self.assertIs(type(caught.exception), kind)
            if attribute is not None:
                self.assertEqual(getattr(caught.exception, attribute), word)

    def test_files(self):
        for data in ([], [83, 84, 75, 49], self.data[:-1], self.data[1:], self.data + [0]):
            self.refused(data, [A], None, BadFile, None, None)
            self.refused(data, [], None, BadFile, None, None)
            self.refused(data, [("none",)], (), BadFile, None, None)

    def test_paths(self):
        self.refused(self.data, [], None, NoColumn, "path", ())
        self.refused(self.data, [("none",)], None, NoColumn, "path", ("none",))
        self.refused(self.data, [A, ("c",), ("d",)], None, NoColumn, "path", ("c",))
        self.refused(self.data, [("none",)], ("no",), NoColumn, "path", ("none",))
        self.refused(self.data, [], ("no",), NoColumn, "path", ())

    def test_conditions(self):
        self.refused(self.data, [A], (), BadCondition, "why", "form")
        self.refused(self.data, [A], False, BadCondition, "why", "form")
        self.refused(self.data, [A], ("has", ("c",)), BadCondition, "why", "path")
        self.refused(self.data, [A], ("eq", A, True), BadCondition, "why", "value")

    def test_the_condition_is_passed_by_keyword(self):
        for take in (read, touched_pages):
            with self.assertRaises(TypeError):
                take(self.data, [A], ("has", A))

    def test_errors_before_any_page_is_looked_into(self):
        end = max([place + length for pages in Opened(self.data).groups[0][2] for place, length, _ in pages])
        spoilt = self.data[:4] + [255] * (end - 4) + self.data[end:]
        self.refused(spoilt, [], None, NoColumn, "path", ())
        self.refused(spoilt, [A], (), BadCondition, "why", "form")
        with self.assertRaises(Refused):
            read(spoilt, [A])


class BrokenTest(ReaderCase):
    def answers(self, data, asks):
        kept = list(data)
        for paths, condition in asks:
            for take in (read, touched_pages):
                try:
                    self.assertIsInstance(take(data, paths, condition=condition), list)
                except Refused:
                    pass
        self.assertEqual(data, kept)

    def test_one_byte_changed_taken_away_or_put_in(self):
        asks = [([("tags", "hits"), ("id",)], None), ([("on",)], ("lt", ("tags", "key"), "b")),
                ([("box", "inner", "t"), ("tags", "flags")], ("or", ("not", ("has", ("on",))), ("ge", ("box", "a"), 0)))]
        data = write_groups(NESTED, groups_of(NESTED, (3, 1), (2,), 3))
        for form in broken_forms(data):
            self.answers(form, asks)

    def test_bytes_changed_at_several_places(self):
        source = random.Random(7)
        asks = [([("marks",), ("name",)], None), ([("id",)], ("eq", ("marks",), 1)), ([("on",)], ("gt", ("name",), "a"))]
        data = write_groups(FLAT, groups_of(FLAT, (5, 4), (2, 3), 6))
        for _ in range(1000):
            form = list(data)
            for _ in range(source.randrange(1, 6)):
                form[source.randrange(len(form))] = source.choice((0, 1, 2, 3, 255, source.randrange(256)))
            self.answers(form, asks)

    def test_pages_exchanged(self):
        # Each page is one of its own, but they are not those of their places.
        schema = (("m", "many", "int"), ("n", "many", "int"))
        data = write_groups(schema, [([((1, 2), (1,)), ((2,), (1, 2))], (1, (0, 0)))])
        pages = [data[place:place + length] for pages in Opened(data).groups[0][2] for place, length, _ in pages]
        end = 4 + sum([len(page) for page in pages])
        for order in itertools.permutations(pages):
            form = data[:4] + [byte for page in order for byte in page] + data[end:]
            self.answers(form, [([("m",), ("n",)], None), ([("m",)], ("eq", ("n",), 2))])


if __name__ == "__main__":
    unittest.main()
