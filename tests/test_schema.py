"""Points 1.1 to 1.4: schemas, check_schema, columns, and projecting a schema."""

import copy
import itertools
import string
import unittest

from stripestack.errors import BadSchema, NoColumn
from stripestack.schema import check_schema, column_of, columns_of, paths_of, project_schema

TIMES = ("one", "maybe", "many")
KINDS = ("int", "bool", "text")
GOOD = ("good", "one", "int")


class Same:
    """A value that says of each other value that both are equal."""

    def __eq__(self, other):
        return True


# Values of any kind, none of which is a name, a times, a kind or a field, and none a tuple.
NO_TUPLES = [
    None, True, False, 0, 1, 3, -7, 2 ** 70, 1.5, float("nan"), "", "ABC", "a b", b"", b"one", b"int",
    [], ["one"], ["int"], [("a", "one", "int")], ["a", "one", "int"], {}, {"one": 1}, {"int": 1},
    {"a": ("one", "int")}, {"one"}, frozenset(["int"]), object(), int, str, len, range(3), Same(),
]

DEEP = (
    ("id", "one", "int"),
    ("tags", "many", (
        ("key", "one", "text"),
        ("hits", "maybe", "int"),
        ("more", "maybe", (
            ("flag", "many", "bool"),
            ("last", "many", (
                ("id", "maybe", "text"),
                ("sum", "one", (("x", "one", "int"), ("y", "many", "int"))),
            )),
        )),
    )),
    ("note", "maybe", "text"),
    ("place", "one", (("lat", "one", "int"), ("lon", "maybe", "int"))),
    ("marks", "many", "bool"),
)
DEEP_COLUMNS = [
    (("id",), "int", 0, 0),
    (("tags", "key"), "text", 1, 1),
    (("tags", "hits"), "int", 2, 1),
    (("tags", "more", "flag"), "bool", 3, 2),
    (("tags", "more", "last", "id"), "text", 4, 2),
    (("tags", "more", "last", "sum", "x"), "int", 3, 2),
    (("tags", "more", "last", "sum", "y"), "int", 4, 3),
    (("note",), "text", 1, 0),
    (("place", "lat"), "int", 0, 0),
    (("place", "lon"), "int", 1, 0),
    (("marks",), "bool", 1, 1),
]


def nest(fields, deeper):
    """Return a tuple of fields in which the given one lies so many levels deeper."""
    for _ in range(deeper):
        fields = (GOOD, ("group", "maybe", fields))
    return fields


def levels_of(fields):
    """Return how many levels there are, where the fields may also be no fields."""
    if not isinstance(fields, tuple):
        return 0
    groups = [field[2] for field in fields if isinstance(field, tuple) and len(field) == 3]
    return 1 + max([levels_of(group) for group in groups], default=0)


def many_fields(count):
    return tuple([(f"f{k}", "one", "int") for k in range(count)])


def why_of(schema):
    """Return the word of the first mistake of a schema, or None."""
    try:
        check_schema(schema)
    except BadSchema as error:
        return error.why
    return None


class CheckCase(unittest.TestCase):
    def let_by(self, fields):
        """The fields are a schema, and they are let by at each level that they may lie at."""
        self.assertIsNone(check_schema(fields))
        self.assertIsNone(check_schema(nest(fields, 1)))

    def refused(self, fields, why):
        """The mistake is told at the outermost level and at each deeper one that it fits in."""
        for deeper in range(6 - levels_of(fields)):
            with self.subTest(fields=fields, deeper=deeper):
                self.assertEqual(why_of(nest(fields, deeper)), why)


class GoodSchemasTest(CheckCase):
    def test_every_times_and_every_kind(self):
        for times, kind in itertools.product(TIMES, KINDS):
            with self.subTest(times=times, kind=kind):
                for deeper in range(5):
                    self.assertIsNone(check_schema(nest((("a", times, kind),), deeper)))

    def test_groups_of_every_times(self):
        for times in TIMES:
            with self.subTest(times=times):
                self.let_by((("a", times, (("b", "one", "int"),)),))

    def test_every_choice_of_times_through_five_levels(self):
        for chosen in itertools.product(TIMES, repeat=5):
            kind = "text"
            for times in chosen:
                kind = (("a", times, kind),)
            with self.subTest(chosen=chosen):
                self.assertIsNone(check_schema(kind))

    def test_the_schemas_of_this_file(self):
        self.assertIsNone(check_schema(DEEP))
        self.let_by((("id", "one", "int"), ("tags", "many", (("key", "one", "text"),))))

    def test_one_and_twelve_fields(self):
        for count in (1, 2, 11, 12):
            with self.subTest(count=count):
                self.let_by(many_fields(count))

    def test_names_of_each_length_and_sign(self):
        for length in range(1, 13):
            with self.subTest(length=length):
                self.let_by((("z" * length, "one", "int"),))
        for sign in string.ascii_lowercase + string.digits:
            with self.subTest(sign=sign):
                self.let_by(((sign, "one", "int"),))
                self.let_by((("ab" + sign, "one", "int"),))
        self.let_by((("0123456789az", "one", "int"),))

    def test_words_of_the_document_are_names_too(self):
        for word in TIMES + KINDS:
            with self.subTest(word=word):
                self.let_by(((word, "one", "int"),))

    def test_a_name_may_stand_again_in_another_tuple_of_fields(self):
        inner = (("a", "one", "int"), ("b", "one", "int"))
        self.let_by((("a", "one", inner), ("b", "many", inner), ("c", "maybe", inner)))

    def test_five_levels(self):
        self.assertIsNone(check_schema(nest((GOOD,), 4)))
        self.assertIsNone(check_schema(nest(many_fields(12), 4)))


class FieldsMistakeTest(CheckCase):
    def test_no_tuples_as_a_schema(self):
        for value in NO_TUPLES + ["int", "text", "one", "a"]:
            with self.subTest(value=value):
                self.assertEqual(why_of(value), "fields")

    def test_none_and_thirteen_fields(self):
        self.refused((), "fields")
        self.refused(many_fields(13), "fields")
        self.refused(many_fields(14), "fields")
        self.refused(many_fields(200), "fields")

    def test_an_empty_group_of_every_times(self):
        for times in TIMES:
            self.refused((("a", times, ()),), "fields")

    def test_the_count_is_told_before_a_mistake_in_a_field(self):
        self.refused((None,) * 13, "fields")
        self.refused((("A", "one", "int"),) * 13, "fields")


class DepthMistakeTest(CheckCase):
    def test_six_levels(self):
        self.assertEqual(why_of(nest((GOOD,), 5)), "depth")
        self.assertEqual(why_of(nest(many_fields(12), 5)), "depth")

    def test_six_levels_of_every_times(self):
        for times in TIMES:
            kind = "int"
            for _ in range(6):
                kind = (("a", times, kind),)
            with self.subTest(times=times):
                self.assertEqual(why_of(kind), "depth")

    def test_many_more_levels(self):
        for deeper in (6, 7, 50):
            with self.subTest(deeper=deeper):
                self.assertEqual(why_of(nest((GOOD,), deeper)), "depth")

    def test_the_depth_is_told_before_a_mistake_in_a_field(self):
        for fields in ((None,), (("A", "one", "int"),), (GOOD, GOOD), (("a", "one", None),)):
            with self.subTest(fields=fields):
                self.assertEqual(why_of(nest(fields, 5)), "depth")

    def test_the_count_is_told_before_the_depth(self):
        self.assertEqual(why_of(nest((), 5)), "fields")
        self.assertEqual(why_of(nest(many_fields(13), 5)), "fields")

    def test_a_later_sixth_level_is_told_after_an_earlier_mistake(self):
        self.assertEqual(why_of((("A", "one", "int"), ("g", "one", nest((GOOD,), 4)))), "name")
        self.assertEqual(why_of((("g", "one", nest((GOOD,), 4)), ("A", "one", "int"))), "depth")

    def test_a_sixth_level_that_is_no_tuple_is_a_mistake_of_the_kind(self):
        self.assertEqual(why_of(nest((("a", "one", [GOOD]),), 4)), "kind")


class FieldMistakeTest(CheckCase):
    def test_no_tuples_as_a_field(self):
        for value in NO_TUPLES + ["abc", "int"]:
            self.refused((value,), "field")
            self.refused((GOOD, value), "field")

    def test_tuples_of_other_lengths(self):
        for value in ((), ("a",), ("a", "one"), ("a", "one", "int", "int"), ("a", "one", "int", None)):
            self.refused((value,), "field")
            self.refused((value, GOOD), "field")
            self.refused((GOOD, value), "field")

    def test_a_field_in_the_place_of_the_fields(self):
        self.refused(("a", "one", "int"), "field")


class NameMistakeTest(CheckCase):
    def test_values_of_any_kind(self):
        for value in NO_TUPLES + [(), ("a",), (("a", "one", "int"),)]:
            self.refused(((value, "one", "int"),), "name")

    def test_none_and_thirteen_characters(self):
        self.refused((("", "one", "int"),), "name")
        self.refused((("a" * 13, "one", "int"),), "name")
        self.refused((("a" * 300, "one", "int"),), "name")

    def test_other_characters(self):
        others = [chr(code) for code in range(256) if chr(code) not in string.ascii_lowercase + string.digits]
        for sign in others + ["\u0131", "\u0430", "\u0661", "\u00b2", "\uff41", "\ud800", "\U0001d41a"]:
            with self.subTest(sign=sign):
                for name in (sign, "a" + sign, sign + "a", "a" + sign + "a"):
                    self.assertEqual(why_of(((name, "one", "int"),)), "name")
                    self.assertEqual(why_of(nest(((name, "one", "int"),), 3)), "name")


class TwiceMistakeTest(CheckCase):
    def test_side_by_side_and_further_apart(self):
        self.refused((("a", "one", "int"), ("a", "one", "int")), "twice")
        self.refused((("a", "one", "int"), ("a", "maybe", "text")), "twice")
        self.refused((("a", "one", "int"), ("b", "one", "int"), ("a", "one", "int")), "twice")
        self.refused((("b", "one", "int"), ("a", "one", "int"), ("a", "one", "int")), "twice")
        self.refused(many_fields(11) + (("f0", "one", "int"),), "twice")
        self.refused(many_fields(11) + (("f10", "one", "int"),), "twice")

    def test_groups_and_others(self):
        group = (("x", "one", "int"),)
        self.refused((("a", "one", group), ("a", "one", "int")), "twice")
        self.refused((("a", "one", "int"), ("a", "one", group)), "twice")


class TimesMistakeTest(CheckCase):
    def test_values_of_any_kind(self):
        others = [(), ("one",), "int", "One", "ones", "on", " one", "one ", "MANY", "none", "optional"]
        for value in NO_TUPLES + others:
            self.refused((("a", value, "int"),), "times")

    def test_times_of_a_group(self):
        self.refused((("a", "often", (("b", "one", "int"),)),), "times")


class KindMistakeTest(CheckCase):
    def test_values_of_any_kind(self):
        for value in NO_TUPLES + ["one", "Int", "ints", "in", " int", "int ", "BOOL", "group", "string"]:
            self.refused((("a", "one", value),), "kind")
            self.refused((("a", "many", value), GOOD), "kind")

    def test_a_tuple_as_a_kind_is_checked_as_fields(self):
        for kind, why in (((), "fields"), (("int",), "field"), ((None,), "field"), ((("A", 1, 1),), "name")):
            self.assertEqual(why_of((("a", "one", kind),)), why)
            self.assertEqual(why_of(nest((("a", "one", kind),), 3)), why)


class FirstMistakeTest(CheckCase):
    def test_the_parts_of_a_field_are_told_in_their_order(self):
        self.refused((("A", "often", "float"),), "name")
        self.refused((("A", "often", ()),), "name")
        self.refused((("a", "often", "float"),), "times")
        self.refused((("a", "often", ()),), "times")
        self.refused((GOOD, ("A", "often", "float")), "name")
        self.refused((GOOD, ("good", "often", "float")), "twice")
        self.refused((GOOD, ("good", "one", "float")), "twice")
        self.refused((GOOD, ("good", "one", ())), "twice")

    def test_a_name_that_is_none_and_stands_twice(self):
        self.refused((GOOD, ("A", "one", "int"), ("A", "one", "int")), "name")
        self.assertEqual(why_of((("A", "one", "int"), ("A", "one", "int"))), "name")

    def test_an_earlier_field_is_told_first(self):
        mistakes = [
            ("field", None), ("name", ("A", "one", "int")), ("times", ("t", "often", "int")),
            ("kind", ("k", "one", "float")), ("fields", ("e", "one", ())),
            ("name", ("n", "many", (("x", "one", (("B", "one", "int"),)),))),
            ("twice", ("m", "many", (("x", "one", "int"), ("x", "one", "int")))),
        ]
        for (first, one), (_, other) in itertools.permutations(mistakes, 2):
            self.refused((one, other), first)
            self.refused((GOOD, one, ("mid", "one", "int"), other), first)

    def test_twice_is_told_where_the_second_field_stands(self):
        same = (GOOD, ("good", "one", "int"))
        self.refused(same + (None,), "twice")
        self.refused((GOOD, None, GOOD), "field")
        self.refused((GOOD, ("g", "one", (("A", "one", "int"),)), GOOD), "name")

    def test_the_fields_of_a_group_are_told_before_the_fields_behind_it(self):
        self.refused((("a", "one", (("b", "one", "float"),)), ("A", "one", "int")), "kind")
        self.refused((("A", "one", "int"), ("a", "one", (("b", "one", "float"),))), "name")

    def test_a_schema_with_mistakes_is_not_changed(self):
        field = ["a", "one", {"x": [1]}]
        for schema in ([("a", "one", "int")], (field,), (("a", ["one"], "int"),), (("a", "one", field),)):
            before = copy.deepcopy(schema)
            self.assertIsNotNone(why_of(schema))
            self.assertEqual(schema, before)


class ColumnsTest(unittest.TestCase):
    def test_the_example_of_the_interface(self):
        schema = (("id", "one", "int"), ("tags", "many", (("key", "one", "text"), ("hits", "maybe", "int"))))
        self.assertEqual(columns_of(schema), [
            (("id",), "int", 0, 0), (("tags", "key"), "text", 1, 1), (("tags", "hits"), "int", 2, 1),
        ])

    def test_columns_of_several_levels(self):
        self.assertEqual(columns_of(DEEP), DEEP_COLUMNS)

    def test_a_single_field_of_every_times_and_kind(self):
        numbers = {"one": (0, 0), "maybe": (1, 0), "many": (1, 1)}
        for times, kind in itertools.product(TIMES, KINDS):
            with self.subTest(times=times, kind=kind):
                self.assertEqual(columns_of((("a", times, kind),)), [(("a",), kind) + numbers[times]])

    def test_both_numbers_through_five_levels(self):
        for chosen in itertools.product(TIMES, repeat=5):
            kind = "bool"
            for times in chosen:
                kind = (("a", times, kind),)
            column = (("a",) * 5, "bool", 5 - chosen.count("one"), chosen.count("many"))
            with self.subTest(chosen=chosen):
                self.assertEqual(columns_of(kind), [column])

    def test_the_numbers_of_a_group_do_not_reach_the_fields_behind_it(self):
        group = (("x", "many", "int"), ("y", "one", "int"))
        self.assertEqual(columns_of((("g", "many", group), ("a", "one", "int"), ("h", "one", group))), [
            (("g", "x"), "int", 2, 2), (("g", "y"), "int", 1, 1), (("a",), "int", 0, 0),
            (("h", "x"), "int", 1, 1), (("h", "y"), "int", 0, 0),
        ])

    def test_lists_and_tuples_as_listed(self):
        columns = columns_of(DEEP)
        self.assertIs(type(columns), list)
        self.assertIs(type(paths_of(DEEP)), list)
        for column in columns:
            self.assertIs(type(column), tuple)
            self.assertIs(type(column[0]), tuple)
            self.assertEqual([type(part) for part in column[2:]], [int, int])

    def test_a_new_list_each_time(self):
        columns_of(DEEP).clear()
        paths_of(DEEP).clear()
        self.assertEqual(columns_of(DEEP), DEEP_COLUMNS)
        self.assertEqual(paths_of(DEEP), [column[0] for column in DEEP_COLUMNS])

    def test_paths(self):
        self.assertEqual(paths_of(DEEP), [column[0] for column in DEEP_COLUMNS])
        self.assertEqual(paths_of((("b", "one", "int"), ("a", "many", "int"))), [("b",), ("a",)])

    def test_twelve_fields_in_twelve_groups(self):
        inner = many_fields(12)
        schema = tuple([(f"g{k}", "many", inner) for k in range(12)])
        expected = [((f"g{k}", f"f{n}"), "int", 1, 1) for k in range(12) for n in range(12)]
        self.assertEqual(columns_of(schema), expected)


class ColumnOfTest(unittest.TestCase):
    def test_every_column(self):
        for column in DEEP_COLUMNS:
            with self.subTest(column=column):
                self.assertEqual(column_of(DEEP, column[0]), column)

    def no_column(self, path):
        with self.subTest(path=path):
            with self.assertRaises(NoColumn) as caught:
                column_of(DEEP, path)
            self.assertEqual(caught.exception.path, path)

    def test_paths_that_are_none(self):
        for path in [("no",), ("key",), ("tags", "no"), ("id", "id"), ("tags", "key", "x"), ("tags", "hits", "hits")]:
            self.no_column(path)
        for path in [("Id",), ("i",), ("idid",), ("",), ("note", ""), ("key", "tags"), ("place", "tags", "key")]:
            self.no_column(path)

    def test_paths_of_groups(self):
        groups = [("tags",), ("tags", "more"), ("tags", "more", "last"), ("tags", "more", "last", "sum"), ("place",)]
        for path in groups:
            self.no_column(path)

    def test_no_name_at_all(self):
        self.no_column(())


class ProjectSchemaTest(unittest.TestCase):
    def test_one_path(self):
        self.assertEqual(project_schema(DEEP, [("id",)]), (("id", "one", "int"),))
        self.assertEqual(project_schema(DEEP, [("marks",)]), (("marks", "many", "bool"),))
        self.assertEqual(
            project_schema(DEEP, [("tags", "more", "last", "sum", "y")]),
            (("tags", "many", (("more", "maybe", (("last", "many", (("sum", "one", (("y", "many", "int"),)),)),)),)),),
        )

    def test_some_paths(self):
        paths = [("tags", "hits"), ("tags", "more", "flag"), ("place", "lat")]
        self.assertEqual(project_schema(DEEP, paths), (
            ("tags", "many", (("hits", "maybe", "int"), ("more", "maybe", (("flag", "many", "bool"),)))),
            ("place", "one", (("lat", "one", "int"),)),
        ))

    def test_all_paths(self):
        self.assertEqual(project_schema(DEEP, paths_of(DEEP)), DEEP)

    def test_the_order_is_that_of_the_schema(self):
        self.assertEqual(project_schema(DEEP, paths_of(DEEP)[::-1]), DEEP)
        for paths in itertools.permutations([("note",), ("id",), ("tags", "key")]):
            with self.subTest(paths=paths):
                self.assertEqual(project_schema(DEEP, list(paths)), (
                    ("id", "one", "int"), ("tags", "many", (("key", "one", "text"),)), ("note", "maybe", "text"),
                ))

    def test_a_path_that_occurs_twice(self):
        wanted = (("id", "one", "int"), ("note", "maybe", "text"))
        self.assertEqual(project_schema(DEEP, [("id",), ("id",)]), wanted[:1])
        self.assertEqual(project_schema(DEEP, [("id",), ("note",), ("id",)]), wanted)
        self.assertEqual(project_schema(DEEP, paths_of(DEEP) * 3), DEEP)

    def test_the_same_name_in_another_group_is_left_out(self):
        inner = (("a", "one", "int"), ("b", "one", "int"))
        schema = (("g", "many", inner), ("h", "maybe", inner), ("a", "one", "text"))
        self.assertEqual(project_schema(schema, [("h", "a")]), (("h", "maybe", (("a", "one", "int"),)),))
        self.assertEqual(project_schema(schema, [("a",)]), (("a", "one", "text"),))
        self.assertEqual(
            project_schema(schema, [("h", "b"), ("g", "a")]),
            (("g", "many", (("a", "one", "int"),)), ("h", "maybe", (("b", "one", "int"),))),
        )

    def test_the_columns_are_those_of_the_paths_for_every_choice(self):
        for chosen in itertools.product((False, True), repeat=len(DEEP_COLUMNS)):
            columns = [column for column, wanted in zip(DEEP_COLUMNS, chosen) if wanted]
            if columns:
                projected = project_schema(DEEP, [column[0] for column in columns])
                self.assertIsNone(check_schema(projected))
                self.assertEqual(columns_of(projected), columns)

    def no_column(self, paths, path):
        with self.subTest(paths=paths):
            with self.assertRaises(NoColumn) as caught:
                project_schema(DEEP, paths)
            self.assertEqual(caught.exception.path, path)

    def test_the_first_path_that_is_none(self):
        self.no_column([("no",)], ("no",))
        self.no_column([("id",), ("no",), ("nor",)], ("no",))
        self.no_column([("nor",), ("id",), ("no",)], ("nor",))
        self.no_column([("id",), ("tags", "key", "x")], ("tags", "key", "x"))
        self.no_column([("id",), ("key",), ("id",)], ("key",))
        self.no_column(paths_of(DEEP) + [("tags", "no")], ("tags", "no"))

    def test_the_path_of_a_group(self):
        self.no_column([("tags",)], ("tags",))
        self.no_column([("tags", "key"), ("tags", "more")], ("tags", "more"))

    def test_without_paths(self):
        self.no_column([], ())

    def test_the_empty_path(self):
        self.no_column([()], ())
        self.no_column([("id",), (), ("no",)], ())

    def test_the_paths_are_not_changed(self):
        for paths in ([("note",), ("id",), ("note",)], [("id",), ("no",)], []):
            before = list(paths)
            try:
                project_schema(DEEP, paths)
            except NoColumn:
                pass
            self.assertEqual(paths, before)


if __name__ == "__main__":
    unittest.main()
