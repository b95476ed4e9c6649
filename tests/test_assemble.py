"""Point 3.2: columns that are not those of any list of records are refused."""

import copy
import itertools
import unittest

from stripestack.errors import BadColumns
from stripestack.schema import columns_of, paths_of
from stripestack.shred import assemble, shred

TIMES = ("one", "maybe", "many")

# Schemas, and for each of them lists of records.
SAMPLES = (
    ((("a", "one", "int"),), ([], [(1,)], [(1,), (2,), (2,)])),
    ((("a", "maybe", "text"),), ([], [(None,)], [("x",)], [("",), (None,), ("x",)])),
    ((("a", "many", "bool"),), ([], [((),)], [((True,),)], [((True, False),), ((),), ((False, False, True),)])),
    (
        (("a", "one", "int"), ("b", "maybe", "int"), ("c", "many", "int")),
        ([(1, None, ())], [(1, 2, (3, 4)), (5, None, ()), (6, 7, (8,))]),
    ),
    (
        (("g", "maybe", (("a", "one", "int"), ("b", "maybe", "int"), ("c", "many", "int"))),),
        ([(None,)], [((1, None, ()),)], [(None,), ((1, 2, (3, 4)),), ((5, None, (6,)),), (None,)]),
    ),
    (
        (("g", "many", (("a", "one", "int"), ("b", "maybe", "int"), ("c", "many", "int"))), ("d", "one", "bool")),
        (
            [((), True)],
            [(((1, None, ()), (2, 3, (4, 5))), False)],
            [((), True), (((1, 2, (3,)),), False), (((4, None, ()), (5, None, (6, 7)), (8, 9, ())), True)],
        ),
    ),
    (
        (("g", "many", (("h", "many", (("x", "one", "int"), ("y", "many", "int"))), ("z", "maybe", "int"))),),
        (
            [((),)],
            [((((), None),),)],
            [((((), 1), (((1, (2, 3)), (4, ())), None), (((5, (6,)),), 7)),), ((),), (((((8, ()),), None),),)],
        ),
    ),
    (
        (("g", "one", (("h", "many", (("i", "maybe", (("x", "one", "int"), ("y", "one", "int"))),)),)),),
        ([(((),),)], [((((None,),),),)], [(((((1, 2),), (None,), ((3, 4),)),),), (((),),), (((((5, 6),),),),)]),
    ),
)


def all_samples():
    for schema, lists in SAMPLES:
        for records in lists:
            yield schema, records


def changed_entries(entry):
    """Return entries that differ a little from one."""
    repetition, definition, value = entry
    changed = [(repetition + more, definition, value) for more in (-1, 1, 2, 5)]
    changed += [(repetition, definition + more, value) for more in (-1, 1, 2, 5)]
    changed += [(repetition + more, definition + more, value) for more in (-1, 1)]
    changed += [(repetition, definition, other) for other in (None, 17, True, "s")]
    changed += [(repetition, definition + more, other) for more in (-1, 1) for other in (None, 17)]
    changed += [(0, definition, value), (0, 0, None)]
    return changed


def changed_rows(row):
    """Return lists of entries with one entry changed, taken away, doubled, moved, exchanged or added."""
    rows = []
    for at, entry in enumerate(row):
        for other in changed_entries(entry):
            rows.append(row[:at] + [other] + row[at + 1:])
        rows.append(row[:at] + row[at + 1:])
        rows.append(row[:at] + [entry, entry] + row[at + 1:])
        rows.append([entry] + row[:at] + row[at + 1:])
        rows.append(row[:at] + row[at + 1:] + [entry])
    for first, second in itertools.combinations(range(len(row)), 2):
        other = list(row)
        other[first], other[second] = row[second], row[first]
        rows.append(other)
    for more in itertools.product((0, 1, 2), (0, 1, 2, 3), (None, 9)):
        rows.append(row + [more])
        rows.append([more] + row)
    rows.append([])
    rows.append(row[::-1])
    rows.append(row + row)
    return rows


class AssembleCase(unittest.TestCase):
    def refused(self, schema, columns):
        before = copy.deepcopy((schema, columns))
        with self.assertRaises(BadColumns) as caught:
            assemble(schema, columns)
        self.assertIsInstance(caught.exception.why, str)
        self.assertEqual((schema, columns), before)

    def refused_or_the_columns_of_its_records(self, schema, columns):
        """Return True if the columns are refused."""
        try:
            records = assemble(schema, columns)
        except BadColumns:
            return True
        found = shred(schema, records)
        self.assertEqual(found, columns)
        self.assertEqual(repr([found[path] for path in found]), repr([columns[path] for path in found]))
        return False


class PathsTest(AssembleCase):
    def test_a_missing_path(self):
        for schema, records in all_samples():
            columns = shred(schema, records)
            self.refused(schema, {})
            for path in columns:
                self.refused(schema, {other: columns[other] for other in columns if other != path})

    def test_the_path_of_a_group_is_no_path_of_a_column(self):
        self.refused((("g", "one", (("a", "one", "int"),)),), {("g",): [(0, 0, 1)], ("a",): [(0, 0, 1)]})

    def test_further_paths_play_no_part(self):
        for schema, records in all_samples():
            for further in ([], [(0, 0, 1)], [(7, 7, 7)] * 50):
                columns = {("zz",): further, **shred(schema, records), ("a", "zz"): further, (): further}
                self.assertEqual(assemble(schema, columns), records)

    def test_the_order_of_the_paths_plays_no_part(self):
        for schema, records in all_samples():
            columns = shred(schema, records)
            turned = {path: columns[path] for path in reversed(list(columns))}
            self.assertEqual(assemble(schema, turned), records)


class ChangedTest(AssembleCase):
    def test_a_change_in_one_column(self):
        refused = 0
        for schema, records in all_samples():
            columns = shred(schema, records)
            for path in columns:
                for row in changed_rows(columns[path]):
                    other = {one: row if one == path else columns[one] for one in columns}
                    refused += self.refused_or_the_columns_of_its_records(schema, other)
        self.assertGreater(refused, 3000)

    def test_a_change_in_each_of_two_columns(self):
        for schema, records in all_samples():
            columns = shred(schema, records)
            if sum([len(row) for row in columns.values()]) > 12:
                continue
            for first, second in itertools.combinations(columns, 2):
                for row, other_row in itertools.product(changed_rows(columns[first]), changed_rows(columns[second])):
                    other = dict(columns)
                    other[first] = row
                    other[second] = other_row
                    self.refused_or_the_columns_of_its_records(schema, other)

    def test_every_short_column(self):
        entries = [*itertools.product((0, 1, 2), (0, 1, 2), (None, 5)), (0, 3, 5), (-1, 1, 5), (0, -1, None)]
        schemas = [(("a", first, "int"),) for first in TIMES]
        schemas += [(("a", first, (("b", second, "int"),)),) for first in TIMES for second in TIMES]
        for schema in schemas:
            path = paths_of(schema)[0]
            taken = 0
            for count in range(4):
                for row in itertools.product(entries, repeat=count):
                    if not self.refused_or_the_columns_of_its_records(schema, {path: list(row)}):
                        taken += 1
            self.assertGreater(taken, 3, schema)

    def test_columns_of_other_records(self):
        for schema, lists in SAMPLES:
            for records, others in itertools.permutations(lists, 2):
                columns = shred(schema, records)
                for path in columns:
                    mixed = {one: columns[one] for one in columns}
                    mixed[path] = shred(schema, others)[path]
                    self.refused_or_the_columns_of_its_records(schema, mixed)


class RefusedTest(AssembleCase):
    def test_repetitions_out_of_range(self):
        for schema, records in all_samples():
            columns = shred(schema, records)
            for path, _, _, greatest in columns_of(schema):
                for at, (_, definition, value) in enumerate(columns[path]):
                    for repetition in (-1, greatest + 1, greatest + 2, 99):
                        row = list(columns[path])
                        row[at] = (repetition, definition, value)
                        self.refused(schema, {**columns, path: row})

    def test_definitions_out_of_range(self):
        for schema, records in all_samples():
            columns = shred(schema, records)
            for path, _, greatest, _ in columns_of(schema):
                for at, (repetition, _, value) in enumerate(columns[path]):
                    for definition in (-1, -2, greatest + 1, greatest + 2, 99):
                        for other in (value, None, 5):
                            row = list(columns[path])
                            row[at] = (repetition, definition, other)
                            self.refused(schema, {**columns, path: row})

    def test_a_first_entry_with_a_repetition(self):
        for repetition in (1, 2):
            for entry in ((repetition, 0, None), (repetition, 1, None), (repetition, 1, 5), (repetition, 2, 5)):
                self.refused((("a", "many", "int"),), {("a",): [entry]})
                self.refused((("a", "many", (("b", "many", "int"),)),), {("a", "b"): [entry]})
                self.refused((("a", "many", "int"),), {("a",): [entry, (0, 1, 5)]})

    def test_a_repetition_behind_an_empty_field(self):
        self.refused((("a", "many", "int"),), {("a",): [(0, 0, None), (1, 1, 5)]})
        self.refused((("a", "many", "int"),), {("a",): [(0, 1, 5), (1, 0, None)]})
        nested = (("a", "many", (("b", "many", "int"),)),)
        self.refused(nested, {("a", "b"): [(0, 1, None), (2, 2, 5)]})
        self.refused(nested, {("a", "b"): [(0, 2, 5), (2, 1, None)]})
        self.refused(nested, {("a", "b"): [(0, 2, 5), (1, 0, None)]})
        self.refused(nested, {("a", "b"): [(0, 0, None), (2, 2, 5)]})

    def test_a_repetition_where_no_field_is_many(self):
        for times in ("one", "maybe"):
            entry = (0, 1 if times == "maybe" else 0, 5)
            self.refused((("a", times, "int"),), {("a",): [entry, (1,) + entry[1:]]})

    def test_columns_of_a_group_with_other_numbers_of_entries(self):
        schema = (("g", "many", (("a", "one", "int"), ("b", "one", "int"))),)
        two = [(0, 1, 1), (1, 1, 2)]
        self.assertEqual(assemble(schema, {("g", "a"): two, ("g", "b"): two}), [(((1, 1), (2, 2)),)])
        for other in ([], two[:1], two + [(1, 1, 3)], two + [(0, 1, 3)], two + [(0, 0, None)], [(0, 0, None)],
                      [(0, 1, 1), (0, 1, 2)]):
            self.refused(schema, {("g", "a"): two, ("g", "b"): other})
            self.refused(schema, {("g", "a"): other, ("g", "b"): two})

    def test_a_group_that_is_there_in_one_column_only(self):
        schema = (("g", "maybe", (("a", "one", "int"), ("b", "maybe", "int"))),)
        there, none, absent = [(0, 1, 5)], [(0, 1, None)], [(0, 0, None)]
        self.assertEqual(assemble(schema, {("g", "a"): there, ("g", "b"): none}), [((5, None),)])
        self.assertEqual(assemble(schema, {("g", "a"): absent, ("g", "b"): absent}), [(None,)])
        self.refused(schema, {("g", "a"): there, ("g", "b"): absent})
        self.refused(schema, {("g", "a"): absent, ("g", "b"): none})
        self.refused(schema, {("g", "a"): absent, ("g", "b"): [(0, 2, 5)]})

    def test_other_numbers_of_records(self):
        schema = (("a", "one", "int"), ("b", "maybe", "int"))
        self.refused(schema, {("a",): [(0, 0, 1)], ("b",): []})
        self.refused(schema, {("a",): [], ("b",): [(0, 0, None)]})
        self.refused(schema, {("a",): [(0, 0, 1)] * 3, ("b",): [(0, 0, None)] * 2})
        self.refused(schema, {("a",): [(0, 0, 1)] * 2, ("b",): [(0, 0, None)] * 3})

    def test_a_value_where_none_belongs(self):
        for value in (5, 0, False, "", "x", (), []):
            self.refused((("a", "maybe", "int"),), {("a",): [(0, 0, value)]})
            self.refused((("a", "many", "int"),), {("a",): [(0, 0, value)]})
            nested = (("g", "many", (("a", "maybe", "int"), ("b", "one", "int"))),)
            good = {("g", "a"): [(0, 1, None)], ("g", "b"): [(0, 1, 5)]}
            self.assertEqual(assemble(nested, good), [(((None, 5),),)])
            self.refused(nested, {**good, ("g", "a"): [(0, 1, value)]})
            absent = {("g", "a"): [(0, 0, None)], ("g", "b"): [(0, 0, None)]}
            self.refused(nested, {**absent, ("g", "a"): [(0, 0, value)]})
            self.refused(nested, {**absent, ("g", "b"): [(0, 0, value)]})

    def test_none_where_a_value_belongs(self):
        for times, definition in (("one", 0), ("maybe", 1), ("many", 1)):
            self.refused((("a", times, "int"),), {("a",): [(0, definition, None)]})
            self.refused((("g", "one", (("a", times, "int"),)),), {("g", "a"): [(0, definition, None)]})


if __name__ == "__main__":
    unittest.main()
