"""Points 1.3, 1.4 and 2.3 with 3.1: taking records apart into columns."""

import copy
import itertools
import unittest

from stripestack.records import check_record, project_record
from stripestack.schema import check_schema, columns_of, paths_of, project_schema
from stripestack.shred import assemble, shred

TIMES = ("one", "maybe", "many")
VALUES = {"int": (5, 0, -7), "bool": (True, False), "text": ("", "ab")}

# A group many in a group many, beside a group maybe.
PAGES = (
    ("id", "one", "int"),
    ("links", "maybe", (("back", "many", "int"), ("forth", "many", "int"))),
    ("names", "many", (
        ("words", "many", (("code", "one", "text"), ("land", "maybe", "text"))),
        ("url", "maybe", "text"),
    )),
)
PAGE_RECORDS = [
    (10, ((), (20, 40, 60)), (
        ((("en-us", "us"), ("en", None)), "http://a"),
        ((), "http://b"),
        ((("en-gb", "gb"),), None),
    )),
    (20, ((10, 30), (80,)), (((), "http://c"),)),
]
PAGE_COLUMNS = {
    ("id",): [(0, 0, 10), (0, 0, 20)],
    ("links", "back"): [(0, 1, None), (0, 2, 10), (1, 2, 30)],
    ("links", "forth"): [(0, 2, 20), (1, 2, 40), (1, 2, 60), (0, 2, 80)],
    ("names", "words", "code"): [(0, 2, "en-us"), (2, 2, "en"), (1, 1, None), (1, 2, "en-gb"), (0, 1, None)],
    ("names", "words", "land"): [(0, 3, "us"), (2, 2, None), (1, 1, None), (1, 3, "gb"), (0, 1, None)],
    ("names", "url"): [(0, 2, "http://a"), (1, 2, "http://b"), (1, 1, None), (0, 2, "http://c")],
}


def elements_of(times, values):
    """Return what may stand in a record for a field with one of these values."""
    if times == "one":
        return list(values)
    if times == "maybe":
        return [None] + list(values)
    first, last = values[0], values[-1]
    return [(), (first,), (last, first), (first, last, last)]


def records_of(schema, most):
    """Return some records of a schema, at most so many, with much of what may stand in them."""
    choices = []
    for _, times, kind in schema:
        values = records_of(kind, 4) if isinstance(kind, tuple) else VALUES[kind]
        choices.append(elements_of(times, values))
    records = list(itertools.product(*choices))
    step = max(1, len(records) // most)
    return records[::step][:most]


def chains(levels):
    """Return the schemas of one column so many levels deep, with every times at each level."""
    for chosen in itertools.product(TIMES, repeat=levels):
        for kind in VALUES:
            schema = kind
            for at, times in enumerate(chosen):
                schema = ((f"n{at}", times, schema),)
            yield schema


def bushes():
    """Return schemas in which groups of every times hold several fields."""
    for outer, inner in itertools.product(TIMES, repeat=2):
        leaves = tuple([(f"f{at}", times, kind) for at, (times, kind) in enumerate(zip(TIMES, VALUES))])
        yield (("a", outer, leaves), ("b", inner, "int"))
        yield (("b", inner, "text"), ("a", outer, (("c", inner, leaves), ("d", "maybe", "bool"))), ("e", "many", "int"))
    yield PAGES


def column_walk(fields, path, group, repetition, definition, depth):
    """Return the entries of one column, found by walking along its path only."""
    at = [field[0] for field in fields].index(path[0])
    _, times, kind = fields[at]
    if times == "one":
        return value_walk(kind, path, group[at], repetition, definition, depth)
    parts = group[at] if times == "many" else () if group[at] is None else (group[at],)
    if len(parts) == 0:
        return [(repetition, definition, None)]
    deeper = depth + 1 if times == "many" else depth
    entries = []
    for number, part in enumerate(parts):
        again = repetition if number == 0 else deeper
        entries += value_walk(kind, path, part, again, definition + 1, deeper)
    return entries


def value_walk(kind, path, value, repetition, definition, depth):
    if isinstance(kind, tuple):
        return column_walk(kind, path[1:], value, repetition, definition, depth)
    return [(repetition, definition, value)]


def columns_by_walks(schema, records):
    columns = {}
    for path in paths_of(schema):
        columns[path] = [entry for record in records for entry in column_walk(schema, path, record, 0, 0, 0)]
    return columns


class ShredTest(unittest.TestCase):
    def alike(self, found, wanted):
        """The two are equal, and so are the kinds of all their parts."""
        self.assertEqual(found, wanted)
        self.assertEqual(repr(found), repr(wanted))

    def both_ways(self, schema, records):
        """The columns are those of the walks, and give the records again; the arguments stay."""
        before = copy.deepcopy((schema, records))
        columns = shred(schema, records)
        self.alike(columns, columns_by_walks(schema, records))
        kept = copy.deepcopy(columns)
        self.alike(assemble(schema, columns), records)
        self.alike(columns, kept)
        self.alike((schema, records), before)

    def test_example_of_the_interface(self):
        columns = shred((("tags", "many", "int"),), [((5, 6),), ((),)])
        self.alike(columns, {("tags",): [(0, 1, 5), (1, 1, 6), (0, 0, None)]})
        self.alike(assemble((("tags", "many", "int"),), columns), [((5, 6),), ((),)])

    def test_pages(self):
        self.alike(shred(PAGES, PAGE_RECORDS), PAGE_COLUMNS)
        self.alike(assemble(PAGES, PAGE_COLUMNS), PAGE_RECORDS)

    def test_no_records(self):
        for schema in [*chains(1), *chains(2), *bushes()]:
            self.alike(shred(schema, []), {path: [] for path in paths_of(schema)})
            self.alike(assemble(schema, {path: [] for path in paths_of(schema)}), [])

    def test_a_field_of_each_times(self):
        for kind, values in VALUES.items():
            for value in values:
                self.alike(shred((("a", "one", kind),), [(value,)]), {("a",): [(0, 0, value)]})
                self.alike(shred((("a", "maybe", kind),), [(value,)]), {("a",): [(0, 1, value)]})
                self.alike(shred((("a", "many", kind),), [((value,),)]), {("a",): [(0, 1, value)]})
                self.alike(shred((("a", "many", kind),), [((value, value),)]),
                           {("a",): [(0, 1, value), (1, 1, value)]})
            self.alike(shred((("a", "maybe", kind),), [(None,)]), {("a",): [(0, 0, None)]})
            self.alike(shred((("a", "many", kind),), [((),)]), {("a",): [(0, 0, None)]})

    def test_values_that_count_as_nothing_are_values(self):
        schema = (("a", "maybe", "int"), ("b", "maybe", "bool"), ("c", "maybe", "text"), ("d", "many", "text"))
        columns = {("a",): [(0, 1, 0)], ("b",): [(0, 1, False)], ("c",): [(0, 1, "")], ("d",): [(0, 1, "")]}
        self.alike(shred(schema, [(0, False, "", ("",))]), columns)
        self.alike(assemble(schema, columns), [(0, False, "", ("",))])

    def test_many_in_many_in_many(self):
        schema = (("a", "many", (("b", "many", (("c", "many", "int"),)),)),)
        record = ((((((1, 2),), ((3,),)),), ((),), ((((),), ((4,),)),)),)
        entries = [(0, 3, 1), (3, 3, 2), (2, 3, 3), (1, 1, None), (1, 2, None), (2, 3, 4)]
        self.alike(shred(schema, [record]), {("a", "b", "c"): entries})
        self.alike(assemble(schema, {("a", "b", "c"): entries}), [record])

    def test_nothing_at_each_depth(self):
        schema = (("a", "maybe", (("b", "many", (("c", "maybe", (("d", "one", "int"),)),)),)),)
        path = ("a", "b", "c", "d")
        records = [(None,), (((),),), ((((None,),),),), ((((((5,),)),),),)]
        entries = [(0, 0, None), (0, 1, None), (0, 2, None), (0, 3, 5)]
        for record in records:
            self.assertIsNone(check_record(schema, record))
        self.alike(shred(schema, records), {path: entries})
        self.alike(assemble(schema, {path: entries}), records)

    def test_an_absent_group_has_an_entry_in_each_column_under_it(self):
        for times, nothing in (("maybe", None), ("many", ())):
            deeper = (("u", "maybe", "bool"), ("v", "one", "int"))
            inner = (("x", "one", "int"), ("y", "many", "text"), ("z", "one", deeper))
            columns = shred((("g", times, inner), ("h", "one", "int")), [(nothing, 3)])
            absent = [(0, 0, None)]
            self.alike(columns, {
                ("g", "x"): absent, ("g", "y"): absent, ("g", "z", "u"): absent, ("g", "z", "v"): absent,
                ("h",): [(0, 0, 3)],
            })

    def test_further_values_of_a_group_repeat_in_each_column_under_it(self):
        schema = (("g", "many", (("x", "one", "int"), ("y", "many", "int"), ("z", "maybe", "int"))),)
        record = (((1, (2, 3), None), (4, (), 5), (6, (7,), None)),)
        self.alike(shred(schema, [record, record]), {
            ("g", "x"): [(0, 1, 1), (1, 1, 4), (1, 1, 6)] * 2,
            ("g", "y"): [(0, 2, 2), (2, 2, 3), (1, 1, None), (1, 2, 7)] * 2,
            ("g", "z"): [(0, 1, None), (1, 2, 5), (1, 1, None)] * 2,
        })

    def test_the_depth_counts_only_the_fields_many(self):
        schema = (("a", "maybe", (("b", "one", (("c", "many", (("d", "maybe", (("e", "many", "int"),)),)),)),)),)
        record = ((((((((1, 2),)),), (None,), (((),),)),),),)
        self.assertIsNone(check_record(schema, record))
        entries = [(0, 4, 1), (2, 4, 2), (1, 2, None), (1, 3, None)]
        self.alike(shred(schema, [record]), {("a", "b", "c", "d", "e"): entries})
        self.alike(assemble(schema, {("a", "b", "c", "d", "e"): entries}), [record])

    def test_the_first_value_after_an_empty_outer_value(self):
        schema = (("a", "many", (("b", "many", "int"),)),)
        record = ((((),), ((1, 2),), ((3,),)),)
        entries = [(0, 1, None), (1, 2, 1), (2, 2, 2), (1, 2, 3)]
        self.alike(shred(schema, [record]), {("a", "b"): entries})
        self.alike(assemble(schema, {("a", "b"): entries}), [record])

    def test_columns_stand_in_the_order_of_the_schema(self):
        for schema in bushes():
            for records in ([], records_of(schema, 3)):
                self.assertEqual(list(shred(schema, records)), [column[0] for column in columns_of(schema)])

    def test_chains_of_one_to_five_levels(self):
        for levels, most in ((1, 30), (2, 30), (3, 12), (4, 6), (5, 4)):
            for schema in chains(levels):
                self.assertIsNone(check_schema(schema))
                records = records_of(schema, most)
                self.both_ways(schema, records)
                self.both_ways(schema, records[::-1])
                for record in records:
                    self.both_ways(schema, [record])

    def test_bushes(self):
        for schema in bushes():
            self.assertIsNone(check_schema(schema))
            records = records_of(schema, 60)
            for record in records:
                self.assertIsNone(check_record(schema, record))
                self.both_ways(schema, [record])
            self.both_ways(schema, records)
            self.both_ways(schema, records + records)

    def test_twelve_fields(self):
        schema = tuple([(f"f{at}", TIMES[at % 3], ("int", "bool", "text")[at // 4]) for at in range(12)])
        self.both_ways(schema, records_of(schema, 40))

    def test_many_records(self):
        schema = (("a", "one", "int"), ("g", "many", (("b", "maybe", "int"), ("c", "many", "text"))))
        records = [(k, tuple([(None if k % 3 == at else k, ("x",) * (k % 4)) for at in range(k % 5)]))
                   for k in range(5000)]
        self.both_ways(schema, records)

    def test_entries_keep_the_limits_of_their_columns(self):
        for schema in bushes():
            columns = shred(schema, records_of(schema, 50))
            for path, _, definition, repetition in columns_of(schema):
                for found_repetition, found_definition, value in columns[path]:
                    self.assertLessEqual(found_repetition, repetition)
                    self.assertLessEqual(found_definition, definition)
                    self.assertEqual(value is None, found_definition < definition)


class ProjectedTest(unittest.TestCase):
    def test_the_columns_of_some_paths_give_the_projected_records(self):
        for schema in bushes():
            records = records_of(schema, 20)
            columns = shred(schema, records)
            paths = paths_of(schema)
            for count in (1, 2, len(paths)):
                for asked in itertools.combinations(paths, count):
                    wanted = project_schema(schema, list(asked))
                    projected = [project_record(schema, wanted, record) for record in records]
                    alone = {path: columns[path] for path in asked}
                    self.assertEqual(assemble(wanted, alone), projected)
                    self.assertEqual(shred(wanted, projected), alone)
                    self.assertEqual(assemble(wanted, columns), projected)

    def test_pages(self):
        wanted = project_schema(PAGES, [("names", "words", "land"), ("links", "back")])
        columns = {("links", "back"): PAGE_COLUMNS[("links", "back")],
                   ("names", "words", "land"): PAGE_COLUMNS[("names", "words", "land")]}
        self.assertEqual(assemble(wanted, columns), [
            (((),), (((("us",), (None,)),), ((),), ((("gb",),),))),
            (((10, 30),), (((),),)),
        ])


if __name__ == "__main__":
    unittest.main()
