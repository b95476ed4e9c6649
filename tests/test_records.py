"""Points 2.1 to 2.3: records, check_record, and projecting a record."""

import copy
import itertools
import unittest

from stripestack.errors import BadRecord
from stripestack.records import check_record, is_value, project_record
from stripestack.schema import paths_of, project_schema

TIMES = ("one", "maybe", "many")
LEAST = -2147483648
GREATEST = 2147483647
PERCENT = chr(37)
ALL_SIGNS = "".join([chr(code) for code in range(32, 127) if code != 37])

INTS = [0, 1, -1, 127, 128, LEAST, LEAST + 1, GREATEST, GREATEST - 1]
BOOLS = [True, False]
TEXTS = ["", "a", " ", "~", "A b", "x" * 59, "x" * 60, ALL_SIGNS[:60], ALL_SIGNS[-60:], "\\", "'", '"', "$&"]
GOOD_VALUES = {"int": INTS, "bool": BOOLS, "text": TEXTS}

OUT_OF_RANGE = [LEAST - 1, GREATEST + 1, 2 ** 32, -2 ** 32, 10 ** 30, -10 ** 30]
BAD_TEXTS = [
    "x" * 61, " " * 61, "x" * 1000, PERCENT, "a" + PERCENT, PERCENT + "a", "a" + PERCENT + "b", "\n", "a\n", "\na",
    "\t", "\r", "\x00", "\x1f", "a\x1fb", "\x7f", "a\x7f", "\x80", "\xa0", "\xe9", "a\xe9", "\u2028", "\u20ac",
    "\ud800", "\U0001f600", "x" * 59 + PERCENT,
]
OTHERS = [
    None, 0.0, 1.0, 1.5, float("inf"), float("nan"), 1j, b"", b"a", b"int", (), (1,), ("a",), (True,), [], [1], ["a"],
    {}, {1: 2}, {"a"}, frozenset(), object(), int, len, range(2),
]
BAD_VALUES = {
    "int": OUT_OF_RANGE + BOOLS + TEXTS + BAD_TEXTS + OTHERS,
    "bool": INTS + OUT_OF_RANGE + TEXTS + BAD_TEXTS + OTHERS,
    "text": INTS + OUT_OF_RANGE + BOOLS + BAD_TEXTS + OTHERS,
}
EVERY_VALUE = INTS + OUT_OF_RANGE + BOOLS + TEXTS + BAD_TEXTS + OTHERS


def nest(schema, record, deeper):
    """Return a schema and a record in which the given ones lie so many levels deeper."""
    for _ in range(deeper):
        schema = (("before", "one", "int"), ("group", "many", schema), ("behind", "one", "int"))
        record = (1, (record,), 2)
    return schema, record


def levels_of(schema):
    groups = [field[2] for field in schema if isinstance(field[2], tuple)]
    return 1 + max([levels_of(group) for group in groups], default=0)


def why_of(schema, record):
    """Return the word of the first mistake of a record, or None."""
    try:
        check_record(schema, record)
    except BadRecord as error:
        return error.why
    return None


class IsValueTest(unittest.TestCase):
    def test_values_of_each_kind(self):
        for kind, values in GOOD_VALUES.items():
            for value in values:
                with self.subTest(kind=kind, value=value):
                    self.assertIs(is_value(kind, value), True)

    def test_all_other_values_are_none(self):
        for kind, values in BAD_VALUES.items():
            for value in values:
                with self.subTest(kind=kind, value=value):
                    self.assertIs(is_value(kind, value), False)

    def test_ends_of_the_ints(self):
        self.assertIs(is_value("int", -2147483648), True)
        self.assertIs(is_value("int", -2147483649), False)
        self.assertIs(is_value("int", 2147483647), True)
        self.assertIs(is_value("int", 2147483648), False)

    def test_every_single_sign(self):
        for code in range(300):
            with self.subTest(code=code):
                self.assertIs(is_value("text", chr(code)), 32 <= code <= 126 and code != 37)

    def test_every_length(self):
        for length in range(130):
            with self.subTest(length=length):
                self.assertIs(is_value("text", "q" * length), length <= 60)

    def test_the_value_is_not_changed(self):
        for value in ([1, [2]], {"a": [1]}):
            before = copy.deepcopy(value)
            for kind in GOOD_VALUES:
                self.assertIs(is_value(kind, value), False)
            self.assertEqual(value, before)


class CheckCase(unittest.TestCase):
    def let_by(self, schema, record):
        """The record is let by at the outermost level and at each deeper one of a schema."""
        for deeper in range(6 - levels_of(schema)):
            with self.subTest(schema=schema, record=record, deeper=deeper):
                self.assertIsNone(check_record(*nest(schema, record, deeper)))

    def refused(self, schema, record, why):
        """The mistake is told at the outermost level and at each deeper one of a schema."""
        for deeper in range(6 - levels_of(schema)):
            with self.subTest(schema=schema, record=record, deeper=deeper):
                self.assertEqual(why_of(*nest(schema, record, deeper)), why)


class GoodRecordsTest(CheckCase):
    def test_every_value_of_every_kind_and_times(self):
        for kind, values in GOOD_VALUES.items():
            for value in values:
                self.let_by((("a", "one", kind),), (value,))
                self.let_by((("a", "maybe", kind),), (value,))
                self.let_by((("a", "many", kind),), ((value,),))

    def test_none_and_no_values(self):
        for kind in ("int", "bool", "text", (("b", "one", "int"),)):
            self.let_by((("a", "maybe", kind),), (None,))
            self.let_by((("a", "many", kind),), ((),))

    def test_many_values(self):
        for kind, values in GOOD_VALUES.items():
            self.let_by((("a", "many", kind),), (tuple(values) * 20,))

    def test_groups_of_every_times(self):
        inner = (("x", "one", "int"), ("y", "maybe", "text"))
        self.let_by((("g", "one", inner),), ((1, "a"),))
        self.let_by((("g", "maybe", inner),), ((1, None),))
        self.let_by((("g", "many", inner),), (((1, "a"), (2, None), (3, "")),))

    def test_several_fields(self):
        schema = (("i", "one", "int"), ("b", "maybe", "bool"), ("t", "many", "text"), ("g", "many", (
            ("i", "maybe", "int"), ("t", "one", "text"),
        )))
        self.let_by(schema, (0, None, (), ()))
        self.let_by(schema, (5, False, ("", "a"), ((None, ""), (7, "z"))))

    def test_twelve_fields(self):
        schema = tuple([(f"f{k}", "one", "int") for k in range(12)])
        self.let_by(schema, tuple(range(12)))


class FieldsMistakeTest(CheckCase):
    def test_no_tuples(self):
        one_field = (("a", "one", "int"),)
        two_fields = (("a", "one", "int"), ("b", "one", "int"))
        for value in EVERY_VALUE:
            if not isinstance(value, tuple):
                self.refused(one_field, value, "fields")
                self.refused(two_fields, value, "fields")
        self.refused(two_fields, [1, 2], "fields")
        self.refused(two_fields, "ab", "fields")
        self.refused(two_fields, {1: 1, 2: 2}, "fields")

    def test_other_numbers_of_fields(self):
        for count in (1, 2, 3, 12):
            schema = tuple([(f"f{k}", "one", "int") for k in range(count)])
            for length in range(15):
                self.refused(schema, (1,) * length, None if length == count else "fields")

    def test_groups_of_every_times(self):
        inner = (("x", "one", "int"), ("y", "one", "int"))
        for value in (5, "ab", (), (1,), (1, 2, 3), [1, 2], True, b"ab"):
            self.refused((("g", "one", inner),), (value,), "fields")
            self.refused((("g", "maybe", inner),), (value,), "fields")
            self.refused((("g", "many", inner),), ((value,),), "fields")
            self.refused((("g", "many", inner),), (((1, 2), value),), "fields")

    def test_none_is_no_group_for_one_and_many(self):
        inner = (("x", "one", "int"),)
        self.refused((("g", "one", inner),), (None,), "fields")
        self.refused((("g", "many", inner),), ((None,),), "fields")
        self.refused((("g", "maybe", inner),), ((None,),), "value")

    def test_the_number_is_told_before_a_mistake_in_a_field(self):
        self.refused((("a", "one", "int"), ("b", "many", "int")), ("x",), "fields")
        self.refused((("a", "one", "int"), ("b", "many", "int")), ("x", 5, 6), "fields")


class ManyMistakeTest(CheckCase):
    def test_no_tuples(self):
        for kind in ("int", "bool", "text", (("b", "one", "int"),)):
            for value in EVERY_VALUE:
                if not isinstance(value, tuple):
                    self.refused((("a", "many", kind),), (value,), "many")

    def test_only_many_asks_for_a_tuple(self):
        for times in ("one", "maybe"):
            for value in ((), (1,), [], [1]):
                self.refused((("a", times, "int"),), (value,), "value")


class ValueMistakeTest(CheckCase):
    def test_every_kind_and_every_times(self):
        for kind, values in BAD_VALUES.items():
            good = GOOD_VALUES[kind][0]
            for value in values:
                self.refused((("a", "one", kind),), (value,), "value")
                self.refused((("a", "many", kind),), ((value,),), "value")
                self.refused((("a", "many", kind),), ((good, value),), "value")
                if value is not None:
                    self.refused((("a", "maybe", kind),), (value,), "value")

    def test_ends_of_the_ints(self):
        for times in ("one", "maybe"):
            schema = (("a", times, "int"),)
            self.let_by(schema, (LEAST,))
            self.let_by(schema, (GREATEST,))
            self.refused(schema, (LEAST - 1,), "value")
            self.refused(schema, (GREATEST + 1,), "value")

    def test_truth_values_and_numbers(self):
        for value in (True, False):
            self.refused((("a", "one", "int"),), (value,), "value")
        for value in (0, 1, 1.0):
            self.refused((("a", "one", "bool"),), (value,), "value")

    def test_texts(self):
        schema = (("a", "one", "text"),)
        for good in ("", "x" * 60, " ", "~"):
            self.let_by(schema, (good,))
        for bad in ("x" * 61, PERCENT, "\n", "\x7f", "\x1f", b"a"):
            self.refused(schema, (bad,), "value")

    def test_none_is_a_value_of_maybe_only(self):
        self.refused((("a", "one", "int"),), (None,), "value")
        self.refused((("a", "many", "int"),), ((None,),), "value")
        self.let_by((("a", "maybe", "int"),), (None,))


class FirstMistakeTest(CheckCase):
    SCHEMA = (
        ("a", "one", "int"),
        ("b", "many", "text"),
        ("c", "one", (("x", "one", "bool"), ("y", "many", "int"))),
        ("d", "maybe", (("x", "maybe", "text"),)),
    )
    GOOD = (1, ("t",), (True, (1,)), ("z",))
    # For each field the elements with a mistake and the words for them.
    MISTAKES = (
        (("x", "value"), (None, "value")),
        ((5, "many"), (None, "many"), (("t", 5), "value")),
        ((5, "fields"), ((True,), "fields"), ((True, 5), "many"), ((5, 5), "value"), ((True, (1, "x")), "value")),
        ((5, "fields"), (((),), "value"), ((), "fields"), ((5,), "value")),
    )

    def test_a_single_mistake(self):
        self.let_by(self.SCHEMA, self.GOOD)
        for at, mistakes in enumerate(self.MISTAKES):
            for bad, why in mistakes:
                record = self.GOOD[:at] + (bad,) + self.GOOD[at + 1:]
                self.refused(self.SCHEMA, record, why)

    def test_the_leftmost_of_two_mistakes(self):
        for first, second in itertools.combinations(range(4), 2):
            for (one, why), (other, _) in itertools.product(self.MISTAKES[first], self.MISTAKES[second]):
                record = list(self.GOOD)
                record[first] = one
                record[second] = other
                self.refused(self.SCHEMA, tuple(record), why)

    def test_the_leftmost_of_many_values(self):
        schema = (("g", "many", (("x", "one", "int"), ("y", "many", "int"))),)
        self.refused(schema, (((1, ()), 5, ("x", ())),), "fields")
        self.refused(schema, (((1, ()), ("x", ()), 5),), "value")
        self.refused(schema, (((1, 5), ("x", ()), 5),), "many")
        self.refused(schema, ((("x", 5),),), "value")
        self.refused(schema, (((1, (1, None)), (1, 5)),), "value")

    def test_a_mistake_behind_a_group_is_told_after_those_in_it(self):
        schema = (("g", "maybe", (("x", "maybe", (("y", "one", "int"),)),)), ("h", "many", "int"))
        self.refused(schema, (("z",), 5), "fields")
        self.refused(schema, (((),), 5), "fields")
        self.refused(schema, ((("z",),), 5), "value")
        self.refused(schema, (((1,),), 5), "many")
        self.refused(schema, ((None,), 5), "many")
        self.refused(schema, (None, 5), "many")

    def test_a_record_with_mistakes_is_not_changed(self):
        schema = (("a", "one", "int"), ("b", "many", "int"))
        for record in ([1, [2]], (1, [2, 3]), ({"x": [1]}, ())):
            before = copy.deepcopy(record)
            self.assertIsNotNone(why_of(schema, record))
            self.assertEqual(record, before)


class ProjectRecordTest(unittest.TestCase):
    SCHEMA = (
        ("id", "one", "int"),
        ("tags", "many", (
            ("key", "one", "text"),
            ("hits", "maybe", "int"),
            ("more", "maybe", (
                ("flag", "many", "bool"),
                ("last", "many", (("n", "maybe", "int"), ("t", "one", "text"))),
            )),
        )),
        ("note", "maybe", "text"),
        ("place", "one", (("lat", "one", "int"), ("lon", "maybe", "int"))),
        ("marks", "many", "bool"),
    )
    RECORD = (
        7,
        (
            ("a", 1, ((True, False), ((5, "p"), (None, "q")))),
            ("b", None, None),
            ("c", 3, ((), ())),
        ),
        "hello",
        (10, None),
        (True, True),
    )
    EMPTY = (8, (), None, (11, 12), ())

    def projected(self, paths, record):
        return project_record(self.SCHEMA, project_schema(self.SCHEMA, paths), record)

    def test_all_fields(self):
        for record in (self.RECORD, self.EMPTY):
            self.assertEqual(project_record(self.SCHEMA, self.SCHEMA, record), record)
            self.assertEqual(self.projected(paths_of(self.SCHEMA), record), record)

    def test_fields_at_the_outermost_level(self):
        self.assertEqual(self.projected([("id",)], self.RECORD), (7,))
        self.assertEqual(self.projected([("note",)], self.RECORD), ("hello",))
        self.assertEqual(self.projected([("note",)], self.EMPTY), (None,))
        self.assertEqual(self.projected([("marks",)], self.RECORD), ((True, True),))
        self.assertEqual(self.projected([("marks",)], self.EMPTY), ((),))
        self.assertEqual(self.projected([("marks",), ("id",)], self.RECORD), (7, (True, True)))

    def test_groups_one(self):
        self.assertEqual(self.projected([("place", "lat")], self.RECORD), ((10,),))
        self.assertEqual(self.projected([("place", "lon")], self.RECORD), ((None,),))
        self.assertEqual(self.projected([("place", "lon")], self.EMPTY), ((12,),))

    def test_groups_many(self):
        self.assertEqual(self.projected([("tags", "key")], self.RECORD), ((("a",), ("b",), ("c",)),))
        self.assertEqual(self.projected([("tags", "hits")], self.RECORD), (((1,), (None,), (3,)),))
        self.assertEqual(self.projected([("tags", "key")], self.EMPTY), ((),))

    def test_groups_maybe_and_deeper(self):
        flags = ((((True, False),),), (None,), (((),),))
        self.assertEqual(self.projected([("tags", "more", "flag")], self.RECORD), (flags,))
        numbers = ("a", ((((5,), (None,))),)), ("b", None), ("c", ((),))
        self.assertEqual(self.projected([("tags", "more", "last", "n"), ("tags", "key")], self.RECORD), (numbers,))
        texts = (((((("p",), ("q",))),)),), (None,), (((),),)
        self.assertEqual(self.projected([("tags", "more", "last", "t")], self.RECORD), (texts,))

    def test_a_maybe_group_at_the_outermost_level(self):
        schema = (("g", "maybe", (("x", "one", "int"), ("y", "many", "int"))), ("z", "one", "int"))
        wanted = (("g", "maybe", (("y", "many", "int"),)),)
        self.assertEqual(project_record(schema, wanted, (None, 3)), (None,))
        self.assertEqual(project_record(schema, wanted, ((1, (2, 3)), 3)), (((2, 3),),))
        self.assertEqual(project_record(schema, wanted, ((1, ()), 3)), (((),),))

    def test_values_that_count_as_nothing_are_kept(self):
        schema = (("a", "maybe", "int"), ("b", "maybe", "bool"), ("c", "maybe", "text"), ("d", "one", "int"))
        self.assertEqual(project_record(schema, schema[:3], (0, False, "", 5)), (0, False, ""))

    def test_the_same_name_in_another_group(self):
        inner = (("a", "one", "int"), ("b", "one", "int"))
        schema = (("g", "one", inner), ("h", "one", inner), ("a", "one", "int"))
        wanted = (("g", "one", inner[1:]), ("h", "one", inner[:1]))
        self.assertEqual(project_record(schema, wanted, ((1, 2), (3, 4), 5)), ((2,), (3,)))

    def test_every_choice_of_fields_gives_a_record_of_its_schema(self):
        paths = paths_of(self.SCHEMA)
        for chosen in itertools.product((False, True), repeat=len(paths)):
            asked = [path for path, wanted in zip(paths, chosen) if wanted]
            if asked:
                wanted = project_schema(self.SCHEMA, asked)
                for record in (self.RECORD, self.EMPTY):
                    self.assertIsNone(check_record(wanted, project_record(self.SCHEMA, wanted, record)))

    def test_five_levels_of_every_times(self):
        for chosen in itertools.product(TIMES, repeat=5):
            kind = "int"
            value, left = 4, 4
            wanted = "int"
            for times in chosen:
                kind = (("a", times, kind), ("b", "one", "text"))
                wanted = (("a", times, wanted),)
                value = ((value,) if times == "many" else value, "left out")
                left = ((left,) if times == "many" else left,)
            with self.subTest(chosen=chosen):
                self.assertIsNone(check_record(kind, value))
                self.assertEqual(project_record(kind, wanted, value), left)


if __name__ == "__main__":
    unittest.main()
