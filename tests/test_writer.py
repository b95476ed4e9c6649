"""Points 10.1 and 10.2: writing in pieces, and joining files."""

import copy
import itertools
import unittest

from stripestack.errors import BadFile, BadLayout, BadRecord, BadSchema
from stripestack.files import Opened, plain_layout, read_groups, write_groups
from stripestack.reader import read
from stripestack.schema import paths_of
from stripestack.writer import Writer, merge
from tests.samples import FLAT, NESTED, ONE, SCHEMAS, groups_of, layouts_of, records_of

LAYOUT = (2, (2,))


def ones(*numbers):
    return [(number,) for number in numbers]


class WriterCase(unittest.TestCase):
    def groups(self, writer):
        """Return the lists of the records of the groups of a finished file."""
        schema, groups = read_groups(writer.finish())
        self.assertEqual(schema, ONE)
        self.assertEqual([layout for _, layout in groups], [LAYOUT] * len(groups))
        return [records for records, _ in groups]

    def refused(self, kind, why, call, *arguments, **more):
        with self.assertRaises(kind) as caught:
            call(*arguments, **more)
        self.assertIs(type(caught.exception), kind)
        self.assertEqual(caught.exception.why, why)


class GroupsTest(WriterCase):
    def written(self, group_size, steps):
        """Return the groups of a writer that is given records, and is flushed at each None."""
        writer = Writer(ONE, LAYOUT, group_size=group_size)
        for step in steps:
            if step is None:
                self.assertIsNone(writer.flush())
            else:
                self.assertIsNone(writer.add((step,)))
        return self.groups(writer)

    def test_group_sizes(self):
        self.assertEqual(self.written(1, [1, 2, 3]), [ones(1), ones(2), ones(3)])
        self.assertEqual(self.written(2, [1, 2, 3]), [ones(1, 2), ones(3)])
        self.assertEqual(self.written(2, [1, 2, 3, 4]), [ones(1, 2), ones(3, 4)])
        self.assertEqual(self.written(3, [1, 2, 3]), [ones(1, 2, 3)])
        self.assertEqual(self.written(4, [1, 2, 3]), [ones(1, 2, 3)])

    def test_groups_of_5000(self):
        numbers = list(range(5001))
        self.assertEqual(self.written(5000, numbers), [ones(*numbers[:5000]), ones(5000)])
        self.assertEqual(self.written(5000, numbers[:5000]), [ones(*numbers[:5000])])

    def test_no_records(self):
        self.assertEqual(self.written(3, []), [])
        self.assertEqual(self.written(3, [None]), [])
        self.assertEqual(self.written(3, [None, None]), [])

    def test_flush(self):
        self.assertEqual(self.written(3, [1, None, 2, 3]), [ones(1), ones(2, 3)])
        self.assertEqual(self.written(3, [1, None, None, 2, None]), [ones(1), ones(2)])
        self.assertEqual(self.written(2, [1, 2, None, 3, None, 4, 5, 6]), [ones(1, 2), ones(3), ones(4, 5), ones(6)])
        self.assertEqual(self.written(3, [None, 1, 2, None, 3, 4, 5]), [ones(1, 2), ones(3, 4, 5)])

    def test_the_file_is_that_of_the_groups(self):
        for seed, schema in enumerate(SCHEMAS):
            records = records_of(schema, 11, seed)
            for layout in layouts_of(schema, 3):
                for group_size in (1, 4, 11, 12, 5000):
                    writer = Writer(schema, layout, group_size=group_size)
                    for record in records:
                        writer.add(record)
                    cut = [(records[at:at + group_size], layout) for at in range(0, 11, group_size)]
                    self.assertEqual(writer.finish(), write_groups(schema, cut))

    def test_two_writers_do_not_share_records(self):
        first = Writer(ONE, LAYOUT, group_size=3)
        second = Writer(ONE, LAYOUT, group_size=3)
        first.add((1,))
        second.add((2,))
        self.assertEqual(self.groups(first), [ones(1)])
        self.assertEqual(self.groups(second), [ones(2)])


class WriterErrorsTest(WriterCase):
    def test_schemas(self):
        self.refused(BadSchema, "fields", Writer, (), LAYOUT, group_size=1)
        self.refused(BadSchema, "kind", Writer, (("a", "one", "float"),), (0, ()), group_size=0)

    def test_layouts(self):
        self.refused(BadLayout, "size", Writer, ONE, (0, (0,)), group_size=0)
        self.refused(BadLayout, "size", Writer, ONE, (1001, ()), group_size=1)
        self.refused(BadLayout, "encodings", Writer, ONE, (1, (0, 0)), group_size=0)
        self.refused(BadLayout, "encoding", Writer, ONE, (1, (3,)), group_size=5001)

    def test_group_sizes(self):
        for group_size in (0, -1, 5001, 5002, 1000000):
            self.refused(BadLayout, "group", Writer, ONE, LAYOUT, group_size=group_size)
        for group_size in (1, 2, 4999, 5000):
            Writer(ONE, LAYOUT, group_size=group_size)

    def test_the_group_size_is_passed_by_keyword(self):
        with self.assertRaises(TypeError):
            Writer(ONE, LAYOUT, 1)

    def test_a_refused_record_leaves_nothing(self):
        writer = Writer(FLAT, plain_layout(FLAT, 2), group_size=2)
        good = [(1, None, (), True), (2, "a", (3, 4), False), (5, "b", (), True)]
        wrong = [((), "fields"), (None, "fields"), ((1, None, None, True), "many"), ((True, None, (), True), "value"),
                 ((1, None, (2, "a"), True), "value"), ((1, None, (), None), "value")]
        for record in good:
            for other, why in wrong:
                self.refused(BadRecord, why, writer.add, other)
            writer.add(record)
            for other, why in wrong:
                self.refused(BadRecord, why, writer.add, other)
        groups = [(good[:2], plain_layout(FLAT, 2)), (good[2:], plain_layout(FLAT, 2))]
        self.assertEqual(writer.finish(), write_groups(FLAT, groups))

    def test_closed(self):
        for records in ((), (1,), (1, 2), (1, 2, 3)):
            writer = Writer(ONE, LAYOUT, group_size=2)
            for number in records:
                writer.add((number,))
            writer.finish()
            for _ in range(2):
                self.refused(BadLayout, "closed", writer.add, (1,))
                self.refused(BadLayout, "closed", writer.add, ("none",))
                self.refused(BadLayout, "closed", writer.flush)
                self.refused(BadLayout, "closed", writer.finish)


class MergeTest(WriterCase):
    def test_files_of_many_kinds(self):
        for seed, schema in enumerate(SCHEMAS):
            parts = [groups_of(schema, counts, sizes, seed) for counts, sizes in
                     (((3, 0), (2,)), ((), (1,)), ((4,), (1000,)), ((0,), (3,)), ((1, 2, 5), (1, 2)))]
            files = [write_groups(schema, groups) for groups in parts]
            kept = copy.deepcopy(files)
            for many in (1, 2, 3):
                for chosen in itertools.product(range(5), repeat=many):
                    joined = [group for at in chosen for group in parts[at]]
                    self.assertEqual(merge([files[at] for at in chosen]), write_groups(schema, joined))
            self.assertEqual(merge(files), write_groups(schema, [group for groups in parts for group in groups]))
            self.assertEqual(files, kept)

    def test_what_is_joined_is_read(self):
        first = groups_of(NESTED, (3, 4), (2,), 1)
        second = groups_of(NESTED, (5,), (3,), 2)
        data = merge([write_groups(NESTED, first), write_groups(NESTED, second)])
        self.assertEqual(read_groups(data), (NESTED, first + second))
        self.assertEqual(Opened(data).group_records(2), second[0][0])
        records = [record for group, _ in first + second for record in group]
        self.assertEqual(read(data, paths_of(NESTED)), records)
        self.assertEqual(merge([merge([data, data]), data]), merge([data, data, data]))

    def test_no_files(self):
        self.refused(BadLayout, "files", merge, [])

    def test_bytes_that_are_no_file(self):
        good = write_groups(ONE, [(ones(1, 2), LAYOUT)])
        for wrong in ([], good[1:], good[:-1], good[:-8] + [255] * 4 + good[-4:], [83, 84, 75, 49]):
            for files in ([wrong], [wrong, good], [good, wrong], [good, good, wrong]):
                with self.assertRaises(BadFile) as caught:
                    merge(files)
                self.assertIs(type(caught.exception), BadFile)

    def test_schemas_that_differ(self):
        files = []
        for schema in (ONE, (("b", "one", "int"),), (("a", "maybe", "int"),), (("a", "one", "text"),),
                       ONE + (("b", "one", "int"),), (("a", "one", ONE),)):
            files.append(write_groups(schema, []))
        for first, second in itertools.permutations(files, 2):
            self.refused(BadLayout, "schema", merge, [first, second])
            self.refused(BadLayout, "schema", merge, [first, first, second])
            self.refused(BadLayout, "schema", merge, [first, second, first])

    def test_a_file_that_cannot_be_read_before_schemas_that_differ(self):
        first, second = write_groups(ONE, []), write_groups(FLAT, [])
        for files in ([first, second, []], [first, [], second], [[], first, second]):
            with self.assertRaises(BadFile):
                merge(files)

    def test_spoilt_pages_are_joined_as_they_are(self):
        good = write_groups(ONE, [(ones(1, 2, 3), LAYOUT)])
        end = max([place + length for place, length, _ in Opened(good).groups[0][2][0]])
        for fill in (0, 37, 255):
            spoilt = good[:4] + [fill] * (end - 4) + good[end:]
            joined = merge([spoilt, good, spoilt])
            whole = merge([good, good, good])
            pages = end - 4
            wanted = whole[:4] + [fill] * pages + whole[4 + pages:4 + 2 * pages] + [fill] * pages + whole[4 + 3 * pages:]
            self.assertEqual(joined, wanted)
            self.assertEqual(Opened(joined).group_records(1), ones(1, 2, 3))
            self.assertEqual(merge([spoilt]), spoilt)


if __name__ == "__main__":
    unittest.main()
