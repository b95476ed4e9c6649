"""Point 10.3: records of an elder schema, read with a newer one."""

import copy
import itertools
import unittest

from stripestack.errors import BadFile, BadSchema, NoFit, Refused
from stripestack.evolve import change_record, check_fit, fits, read_as
from stripestack.files import Opened, plain_layout, write_groups
from stripestack.records import check_record
from tests.samples import FLAT, NESTED, ONE, SCHEMAS, broken_forms, groups_of, records_of

TIMES = ("one", "maybe", "many")
KINDS = ("int", "bool", "text")
INNER = (("x", "one", "int"),)


def wrapped(fields, levels):
    """Return a schema in which some fields lie so many levels deeper, and the path of their group."""
    path = ()
    for level in range(levels):
        name = f"g{level}"
        fields = (("first", "one", "int"), (name, TIMES[level % 3], fields))
        path = (name,) + path
    return fields, path


class FitTest(unittest.TestCase):
    def fit(self, elder, newer):
        """The fields fit, alone and at every level of groups."""
        kept = copy.deepcopy((elder, newer))
        for levels in range(4):
            deep_elder, path = wrapped(elder, levels)
            deep_newer, _ = wrapped(newer, levels)
            self.assertIsNone(check_fit(deep_elder, deep_newer, ()))
            self.assertIs(fits(deep_elder, deep_newer), True)
        self.assertEqual((elder, newer), kept)

    def no_fit(self, elder, newer, path):
        """The fields do not fit, alone and at every level of groups; the path leads to the first such field."""
        for levels in range(4):
            deep_elder, before = wrapped(elder, levels)
            deep_newer, _ = wrapped(newer, levels)
            for above in ((), ("up",), ("far", "up")):
                with self.assertRaises(NoFit) as caught:
                    check_fit(deep_elder, deep_newer, above)
                self.assertEqual(caught.exception.path, above + before + path)
            self.assertIs(fits(deep_elder, deep_newer), False)

    def test_the_same_schema(self):
        for schema in SCHEMAS:
            self.fit(schema, schema)

    def test_times(self):
        for elder, newer in itertools.product(TIMES, repeat=2):
            for kind in KINDS + (INNER,):
                if TIMES.index(elder) <= TIMES.index(newer):
                    self.fit((("a", elder, kind),), (("a", newer, kind),))
                else:
                    self.no_fit((("a", elder, kind),), (("a", newer, kind),), ("a",))

    def test_kinds(self):
        for elder, newer in itertools.product(KINDS + (INNER,), repeat=2):
            if elder == newer:
                self.fit((("a", "one", elder),), (("a", "many", newer),))
            else:
                self.no_fit((("a", "one", elder),), (("a", "many", newer),), ("a",))

    def test_new_fields(self):
        for kind in KINDS + (INNER,):
            self.fit(ONE, ONE + (("b", "maybe", kind),))
            self.fit(ONE, (("b", "many", kind),) + ONE)
            self.no_fit(ONE, ONE + (("b", "one", kind),), ("b",))
            self.no_fit(ONE, (("b", "one", kind),) + ONE, ("b",))

    def test_fields_left_out_or_exchanged(self):
        self.fit(FLAT, FLAT[::-1])
        self.fit(FLAT, FLAT[1:2])
        self.fit(FLAT, (FLAT[3], FLAT[0]))
        self.fit(FLAT, (("new", "maybe", "int"),))

    def test_fields_in_a_new_group_are_not_asked(self):
        self.fit(ONE, (("g", "maybe", (("x", "one", "int"), ("y", "one", INNER))),))

    def test_a_group_that_is_no_group_in_the_other_schema(self):
        self.no_fit((("a", "one", "int"),), (("a", "one", INNER),), ("a",))
        self.no_fit((("a", "one", INNER),), (("a", "one", "int"),), ("a",))

    def test_the_times_of_a_group_before_the_fields_in_it(self):
        elder = (("g", "many", (("x", "maybe", "int"),)),)
        self.no_fit(elder, (("g", "maybe", (("x", "one", "int"),)),), ("g",))
        self.no_fit(elder, (("g", "many", (("x", "one", "int"),)),), ("g", "x"))
        self.no_fit(elder, (("g", "many", (("x", "maybe", "text"),)),), ("g", "x"))
        self.no_fit(elder, (("g", "many", (("y", "one", "int"),)),), ("g", "y"))
        self.no_fit(elder, (("g", "one", "int"),), ("g",))

    def test_the_first_field_in_the_order_of_the_newer_schema(self):
        elder = (("a", "maybe", "int"), ("b", "one", "text"), ("g", "one", (("x", "many", "int"), ("y", "one", "int"))))
        no_a, no_b, no_c = ("a", "one", "int"), ("b", "one", "int"), ("c", "one", "int")
        no_g = ("g", "one", (("y", "one", "text"), ("x", "one", "int")))
        paths = {no_a: ("a",), no_b: ("b",), no_c: ("c",), no_g: ("g", "y")}
        for order in itertools.permutations(paths):
            self.no_fit(elder, order, paths[order[0]])
            self.no_fit(elder, (("n", "maybe", "int"),) + order, paths[order[0]])


class ChangeTest(unittest.TestCase):
    def change(self, elder, newer, record, wanted):
        kept = copy.deepcopy((elder, newer, record))
        self.assertIsNone(check_record(elder, record))
        self.assertIs(fits(elder, newer), True)
        found = change_record(elder, newer, record)
        self.assertEqual(found, wanted)
        self.assertEqual(repr(found), repr(wanted))
        self.assertIsNone(check_record(newer, found))
        self.assertEqual((elder, newer, record), kept)

    def test_the_same_schema(self):
        for seed, schema in enumerate(SCHEMAS):
            for record in records_of(schema, 20, seed):
                self.change(schema, schema, record, record)

    def test_times(self):
        elements = {"one": (5,), "maybe": (None, 5), "many": ((), (5,), (5, 6, 5))}
        for elder, newer in itertools.product(TIMES, repeat=2):
            if TIMES.index(elder) <= TIMES.index(newer):
                for element in elements[elder]:
                    wanted = element
                    if newer == "many" and elder != "many":
                        wanted = () if element is None else (element,)
                    self.change((("a", elder, "int"),), (("a", newer, "int"),), (element,), (wanted,))

    def test_values_that_are_empty_for_python(self):
        for kind, value in (("int", 0), ("bool", False), ("text", "")):
            for elder in ("one", "maybe"):
                self.change((("a", elder, kind),), (("a", "maybe", kind),), (value,), (value,))
                self.change((("a", elder, kind),), (("a", "many", kind),), (value,), ((value,),))

    def test_groups(self):
        inner, other = (("x", "one", "int"), ("y", "maybe", "text")), (("y", "many", "text"), ("n", "maybe", "int"))
        self.change((("g", "one", inner),), (("g", "one", other),), ((1, "a"),), ((("a",), None),))
        self.change((("g", "one", inner),), (("g", "maybe", other),), ((1, None),), (((), None),))
        self.change((("g", "one", inner),), (("g", "many", other),), ((1, "a"),), (((("a",), None),),))
        self.change((("g", "maybe", inner),), (("g", "maybe", other),), (None,), (None,))
        self.change((("g", "maybe", inner),), (("g", "many", other),), (None,), ((),))
        self.change((("g", "maybe", inner),), (("g", "many", other),), ((1, "a"),), (((("a",), None),),))
        self.change((("g", "many", inner),), (("g", "many", other),), ((),), ((),))
        record = (((1, "a"), (2, None)),)
        self.change((("g", "many", inner),), (("g", "many", other),), record, (((("a",), None), ((), None)),))

    def test_new_fields_are_none_or_empty(self):
        newer = (("b", "maybe", "text"), ("a", "many", "int"), ("c", "many", "bool"), ("d", "maybe", INNER),
                 ("e", "many", INNER))
        self.change(ONE, newer, (7,), (None, (7,), (), None, ()))

    def test_fields_left_out_and_exchanged(self):
        record = (1, "a", (2, 3), True)
        for many in range(1, 5):
            for order in itertools.permutations(range(4), many):
                newer = tuple([FLAT[at] for at in order])
                self.change(FLAT, newer, record, tuple([record[at] for at in order]))

    def test_nothing_of_the_elder_schema_is_left(self):
        self.change(FLAT, (("new", "maybe", "int"), ("more", "many", "text")), (1, None, (), False), (None, ()))

    def test_deep_groups(self):
        elder = (("g", "maybe", (("h", "many", (("i", "one", (("x", "maybe", "int"), ("y", "one", "bool"))),)),)),)
        newer = (("g", "many", (("h", "many", (("i", "maybe", (("n", "many", "int"), ("x", "many", "int"))),)),)),)
        self.change(elder, newer, (None,), ((),))
        self.change(elder, newer, (((),),), ((((),),),))
        # A value of h is a group of the field i alone.
        record = (((((5, True),), ((None, False),)),),)
        first, second = (((), (5,)),), (((), ()),)
        self.change(elder, newer, record, ((((first, second),),),))


class ReadAsTest(unittest.TestCase):
    def refused(self, kind, attribute, word, data, schema):
        with self.assertRaises(kind) as caught:
            read_as(data, schema)
        self.assertIs(type(caught.exception), kind)
        if attribute is not None:
            self.assertEqual(getattr(caught.exception, attribute), word)

    def test_files_of_many_kinds(self):
        for seed, schema in enumerate(SCHEMAS):
            groups = groups_of(schema, (5, 0, 3), (2, 1000), seed)
            data = write_groups(schema, groups)
            kept = list(data)
            records = [record for group, _ in groups for record in group]
            self.assertEqual(read_as(data, schema), records)
            newer = (("fresh", "many", "int"),) + tuple([(name, "many", kind) for name, _, kind in schema[::-1]])
            self.assertEqual(read_as(data, newer), [change_record(schema, newer, record) for record in records])
            self.assertEqual(data, kept)

    def test_a_small_file(self):
        data = write_groups(FLAT, [([(1, None, (5,), True)], plain_layout(FLAT, 1)),
                                   ([(2, "a", (), False)], plain_layout(FLAT, 3))])
        newer = (("name", "many", "text"), ("fresh", "maybe", "bool"), ("id", "maybe", "int"))
        self.assertEqual(read_as(data, newer), [((), None, 1), (("a",), None, 2)])

    def test_no_groups_and_no_records(self):
        self.assertEqual(read_as(write_groups(ONE, []), ONE), [])
        self.assertEqual(read_as(write_groups(ONE, [([], (1, (0,)))]), (("b", "maybe", "int"),)), [])

    def test_errors_and_their_order(self):
        data = write_groups(FLAT, [([(1, None, (), True)], plain_layout(FLAT, 1))])
        self.refused(BadSchema, "why", "fields", data, ())
        self.refused(BadSchema, "why", "fields", [], None)
        self.refused(BadSchema, "why", "name", data[1:], (("ID", "one", "int"),))
        self.refused(BadFile, None, None, [], ONE)
        self.refused(BadFile, None, None, data[:-1], (("id", "one", "text"),))
        self.refused(NoFit, "path", ("id",), data, (("id", "one", "text"),))
        self.refused(NoFit, "path", ("name",), data, (("fresh", "maybe", "int"), ("name", "one", "text")))

    def test_the_fit_is_asked_before_the_pages(self):
        data = write_groups(FLAT, [([(1, None, (), True)], plain_layout(FLAT, 1))])
        end = max([place + length for pages in Opened(data).groups[0][2] for place, length, _ in pages])
        spoilt = data[:4] + [255] * (end - 4) + data[end:]
        self.refused(NoFit, "path", ("id",), spoilt, (("id", "one", "text"),))
        with self.assertRaises(Refused):
            read_as(spoilt, FLAT)

    def test_broken_files(self):
        data = write_groups(NESTED, groups_of(NESTED, (2, 1), (2,), 3))
        newer = (("tags", "many", (("hits", "many", "int"),)), ("id", "maybe", "int"))
        for form in broken_forms(data):
            try:
                self.assertIsInstance(read_as(form, newer), list)
            except Refused:
                pass


if __name__ == "__main__":
    unittest.main()
