"""Points 8.1 to 8.3: the form of conditions, whether they hold, and verdicts."""

import copy
import itertools
import unittest

from stripestack.conditions import check_condition, condition_paths, holds, verdict
from stripestack.errors import BadCondition
from stripestack.pages import mark_of

SCHEMA = (
    ("id", "one", "int"),
    ("name", "maybe", "text"),
    ("tags", "many", (("key", "one", "text"), ("hits", "maybe", "int"), ("on", "one", "bool"))),
)
ID = ("id",)
NAME = ("name",)
KEY = ("tags", "key")
HITS = ("tags", "hits")
ON = ("tags", "on")
COMPARISONS = ("lt", "le", "eq", "ge", "gt")
HAS = ("has", ID)
WRONG_PATHS = ((), ("tags",), ("none",), ("id", "id"), ("tags", "none"), ("key",), "id", ["id"], None, 5, {}, (("id",),),
               ("tags", "key", "key"), (["id"],), ("ID",))


def deep(levels, leaf):
    """Return a tree of so many levels with a leaf at the lowest one."""
    tree = leaf
    for _ in range(levels - 1):
        tree = ("not", tree)
    return tree


class FormCase(unittest.TestCase):
    def good(self, condition):
        kept = copy.deepcopy(condition)
        self.assertIsNone(check_condition(SCHEMA, condition))
        self.assertEqual(condition, kept)

    def refused(self, condition, why):
        with self.assertRaises(BadCondition) as caught:
            check_condition(SCHEMA, condition)
        self.assertEqual(caught.exception.why, why)

    def refused_at_all_levels(self, condition, why):
        """The mistake is found alone, and as each part of greater trees."""
        self.refused(condition, why)
        self.refused(("not", condition), why)
        for word in ("and", "or"):
            self.refused((word, condition, HAS), why)
            self.refused((word, HAS, condition), why)
            self.refused((word, ("not", HAS), ("or", HAS, ("and", HAS, condition))), why)
        self.refused(deep(7, ("not", condition)), why)


class FormTest(FormCase):
    def test_has_and_comparisons_of_each_column(self):
        values = {ID: (0, -1, 2147483647, -2147483648), NAME: ("", "a", "x" * 60), KEY: ("~",), HITS: (7,),
                  ON: (True, False)}
        for path in values:
            self.good(("has", path))
            for op, value in itertools.product(COMPARISONS, values[path]):
                self.good((op, path, value))

    def test_trees_over_trees(self):
        self.good(("not", HAS))
        for word in ("and", "or"):
            self.good((word, HAS, ("eq", KEY, "a")))
            self.good((word, ("not", HAS), ("and", ("or", HAS, HAS), ("lt", HITS, 5))))

    def test_levels(self):
        for levels in range(1, 9):
            self.good(deep(levels, HAS))
            self.good(deep(levels, ("eq", ID, 1)))
        for levels in range(9, 15):
            self.refused(deep(levels, HAS), "form")
        both = HAS
        for _ in range(7):
            both = ("and", both, both)
        self.good(both)
        self.refused(("or", HAS, both), "form")
        self.refused(("or", both, HAS), "form")
        self.refused(deep(100000, HAS), "form")

    def test_what_is_no_tree(self):
        others = (None, True, False, 0, 1, -1, "", "has", "and", [], {}, (), object(), b"has", ["has", ID],
                  ["eq", ID, 1], {"has": ID}, {1, 2}, 2**70)
        for condition in others:
            self.refused_at_all_levels(condition, "form")

    def test_tuples_of_other_lengths(self):
        for word in ("has", "not", *COMPARISONS, "and", "or"):
            parts = (ID, 1) if word in COMPARISONS or word == "has" else (HAS, HAS)
            length = 2 if word in ("has", "not") else 3
            for many in range(5):
                condition = (word,) + (parts + parts)[:many]
                if len(condition) != length:
                    self.refused_at_all_levels(condition, "form")

    def test_other_words(self):
        for word in ("HAS", "ne", "xor", "", "eq ", None, 0, True, ("has",), ["has"], {}, b"eq"):
            for condition in ((word,), (word, ID), (word, ID, 1), (word, HAS, HAS), (word, HAS)):
                self.refused_at_all_levels(condition, "form")

    def test_paths(self):
        for path in WRONG_PATHS:
            self.refused_at_all_levels(("has", path), "path")
            for op in COMPARISONS:
                self.refused_at_all_levels((op, path, 1), "path")

    def test_values(self):
        wrong = {
            ID: (None, True, False, "a", "", 2147483648, -2147483649, (), (1,), [1], {}),
            NAME: (None, 1, True, "x" * 61, chr(37), "\n", "\x7f", ("a",), ["a"], b"a"),
            KEY: (None, 1, "x" * 61),
            HITS: (None, True, "1"),
            ON: (None, 0, 1, "", ()),
        }
        for path in wrong:
            for op, value in itertools.product(COMPARISONS, wrong[path]):
                self.refused_at_all_levels((op, path, value), "value")

    def test_the_path_before_the_value(self):
        self.refused(("eq", ("none",), None), "path")
        self.refused(("eq", ("tags",), ()), "path")

    def test_a_tree_before_its_parts_and_the_left_part_first(self):
        form, path, value = None, ("has", ()), ("eq", ID, "a")
        whys = {"form": form, "path": path, "value": value}
        for first, second in itertools.product(whys, repeat=2):
            self.refused(("and", whys[first], whys[second]), first)
            self.refused(("or", ("not", whys[first]), whys[second]), first)
            self.refused(("or", ("and", HAS, whys[first]), ("not", whys[second])), first)
        self.refused(("and", path), "form")
        self.refused(("not", path, value), "form")
        self.refused(("and", path, value, HAS), "form")

    def test_what_lies_too_deep_is_no_longer_asked(self):
        for lowest in (HAS, ("has", ()), ("eq", ID, "a"), None):
            self.refused(deep(9, lowest), "form")
        self.refused(deep(8, ("has", ())), "path")
        self.refused(("and", ("eq", ID, "a"), deep(8, HAS)), "value")
        self.refused(("and", deep(8, HAS), ("eq", ID, "a")), "form")


class PathsTest(unittest.TestCase):
    def test_single_trees(self):
        self.assertEqual(condition_paths(HAS), [ID])
        for op in COMPARISONS:
            self.assertEqual(condition_paths((op, KEY, "a")), [KEY])

    def test_each_once_in_order(self):
        condition = ("and", ("or", ("has", KEY), ("not", ("eq", ID, 1))), ("or", ("lt", KEY, "a"), ("has", HITS)))
        kept = copy.deepcopy(condition)
        self.assertEqual(condition_paths(condition), [KEY, ID, HITS])
        self.assertEqual(condition, kept)
        self.assertEqual(condition_paths(("not", ("and", ("has", HITS), ("has", ID)))), [HITS, ID])
        self.assertEqual(condition_paths(("and", HAS, HAS)), [ID])


class HoldsTest(unittest.TestCase):
    def check(self, condition, values, wanted):
        kept = copy.deepcopy(values)
        self.assertIs(holds(condition, values), wanted, (condition, values))
        self.assertEqual(values, kept)

    def test_has(self):
        self.check(("has", ID), {ID: []}, False)
        self.check(("has", ID), {ID: [0]}, True)
        self.check(("has", ON), {ON: [False]}, True)
        self.check(("has", KEY), {KEY: [""]}, True)
        self.check(("has", KEY), {KEY: ["a", "b"], ID: []}, True)
        self.check(("has", KEY), {KEY: [], ID: [1]}, False)

    def test_one_value(self):
        for op, wanted in (("lt", "yes no no"), ("le", "yes yes no"), ("eq", "no yes no"), ("ge", "no yes yes"),
                           ("gt", "no no yes")):
            for value, word in zip((4, 5, 6), wanted.split()):
                self.check((op, ID, 5), {ID: [value]}, word == "yes")
            for value, word in zip(("Z", "a", "aa"), wanted.split()):
                self.check((op, KEY, "a"), {KEY: [value]}, word == "yes")

    def test_bools(self):
        self.check(("lt", ON, True), {ON: [False]}, True)
        self.check(("lt", ON, False), {ON: [False, True]}, False)
        self.check(("ge", ON, True), {ON: [True]}, True)
        self.check(("eq", ON, False), {ON: [True, True]}, False)

    def test_no_value(self):
        for op in COMPARISONS:
            self.check((op, ID, 5), {ID: []}, False)

    def test_one_of_many_values_is_enough(self):
        for op, value in (("lt", 4), ("le", 5), ("eq", 5), ("ge", 5), ("gt", 6)):
            other = 9 if op in ("lt", "le", "eq") else 1
            for at in range(4):
                values = [other] * 4
                self.check((op, ID, 5), {ID: values}, False)
                values[at] = value
                self.check((op, ID, 5), {ID: values}, True)

    def test_and_or_not(self):
        for first, second in itertools.product((True, False), repeat=2):
            values = {ID: [1] if first else [], KEY: ["a"] if second else []}
            self.check(("and", ("has", ID), ("eq", KEY, "a")), values, first and second)
            self.check(("or", ("has", ID), ("eq", KEY, "a")), values, first or second)
            self.check(("not", ("has", ID)), values, not first)
            self.check(("not", ("or", ("not", ("has", ID)), ("has", KEY))), values, first and not second)

    def test_not_is_of_the_record_and_not_of_a_value(self):
        self.check(("not", ("eq", ID, 5)), {ID: [5, 6]}, False)
        self.check(("and", ("eq", ID, 5), ("eq", ID, 6)), {ID: [5, 6]}, True)


def told_with(kind, state, values):
    """Return what is told of a page with these values."""
    if state == 0:
        return (0, None, None, 0)
    return (state, min(values), max(values), sum([2**mark for mark in {mark_of(kind, value) for value in values}]))


class VerdictTest(unittest.TestCase):
    def check(self, condition, kind, told, wanted):
        kinds = {ID: kind, ("other",): "bool"}
        both = {ID: told, ("other",): (0, None, None, 0)}
        self.assertEqual(verdict(condition, kinds, both), wanted, (condition, told))

    def test_has(self):
        for state, wanted in ((0, "never"), (1, "perhaps"), (2, "always")):
            self.check(("has", ID), "int", told_with("int", state, [5, 9]), wanted)
            self.check(("has", ID), "text", told_with("text", state, ["a"]), wanted)

    def test_state_0_is_never(self):
        for op in COMPARISONS:
            self.check((op, ID, 5), "int", (0, None, None, 0), "never")

    def test_comparisons_below_at_between_and_above(self):
        # For each word what is told by the values 10 and 20 of 9, 10, 15, 20 and 21: never, sure or perhaps.
        table = {
            "lt": ("never", "never", "perhaps", "perhaps", "sure"),
            "le": ("never", "perhaps", "perhaps", "sure", "sure"),
            "ge": ("sure", "sure", "perhaps", "perhaps", "never"),
            "gt": ("sure", "perhaps", "perhaps", "never", "never"),
        }
        for op, row in table.items():
            for value, wanted in zip((9, 10, 15, 20, 21), row):
                self.check((op, ID, value), "int", told_with("int", 1, [10, 20]), wanted.replace("sure", "perhaps"))
                self.check((op, ID, value), "int", told_with("int", 2, [10, 20]), wanted.replace("sure", "always"))

    def test_texts_are_compared_by_their_codes(self):
        told = told_with("text", 2, ["B", "a"])
        self.check(("lt", ID, "B"), "text", told, "never")
        self.check(("ge", ID, "B"), "text", told, "always")
        self.check(("gt", ID, "aa"), "text", told, "never")
        self.check(("le", ID, "aa"), "text", told, "always")
        self.check(("le", ID, "Z"), "text", told, "perhaps")

    def test_eq_out_of_the_range(self):
        told = (2, 10, 20, 2**32 - 1)
        for value, wanted in ((9, "never"), (10, "perhaps"), (15, "perhaps"), (20, "perhaps"), (21, "never")):
            self.check(("eq", ID, value), "int", told, wanted)
            self.check(("eq", ID, value), "int", (1,) + told[1:], wanted)

    def test_eq_by_the_sieve(self):
        for kind, low, value, high in (("int", -9, 3, 20), ("text", "a", "m", "z")):
            mark = mark_of(kind, value)
            self.check(("eq", ID, value), kind, (2, low, high, 2**32 - 1 - 2**mark), "never")
            self.check(("eq", ID, value), kind, (1, low, high, 2**32 - 1 - 2**mark), "never")
            self.check(("eq", ID, value), kind, (2, low, high, 2**mark), "perhaps")
            # The sieve is asked by eq alone.
            for op in ("lt", "le", "ge", "gt"):
                self.check((op, ID, value), kind, (2, low, high, 0), "perhaps")

    def test_eq_of_equal_values(self):
        for kind, value, other in (("int", 5, 6), ("bool", True, False), ("text", "a", "b")):
            self.check(("eq", ID, value), kind, told_with(kind, 2, [value]), "always")
            self.check(("eq", ID, value), kind, told_with(kind, 1, [value]), "perhaps")
            self.check(("eq", ID, other), kind, told_with(kind, 2, [value]), "never")
            self.check(("eq", ID, other), kind, told_with(kind, 1, [value]), "never")

    def test_bools(self):
        both = told_with("bool", 2, [False, True])
        self.check(("eq", ID, True), "bool", both, "perhaps")
        self.check(("le", ID, True), "bool", both, "always")
        self.check(("lt", ID, False), "bool", both, "never")
        self.check(("lt", ID, True), "bool", both, "perhaps")
        self.check(("ge", ID, False), "bool", both, "always")
        self.check(("gt", ID, True), "bool", both, "never")

    def test_not_and_or(self):
        words = {"never": (0, None, None, 0), "perhaps": (1, 1, 1, 2**19), "always": (2, 1, 1, 2**19)}
        kinds = {("a",): "int", ("b",): "int"}
        first, second = ("has", ("a",)), ("has", ("b",))
        opposite = {"never": "always", "always": "never", "perhaps": "perhaps"}
        for one, two in itertools.product(words, repeat=2):
            told = {("a",): words[one], ("b",): words[two]}
            kept = copy.deepcopy(told)
            self.assertEqual(verdict(first, kinds, told), one)
            self.assertEqual(verdict(("not", first), kinds, told), opposite[one])
            both = "never" if "never" in (one, two) else "always" if one == two == "always" else "perhaps"
            self.assertEqual(verdict(("and", first, second), kinds, told), both)
            self.assertEqual(verdict(("not", ("and", first, second)), kinds, told), opposite[both])
            some = "always" if "always" in (one, two) else "never" if one == two == "never" else "perhaps"
            self.assertEqual(verdict(("or", first, second), kinds, told), some)
            self.assertEqual(verdict(("or", ("not", first), ("not", second)), kinds, told), opposite[both])
            self.assertEqual(told, kept)

    def test_a_verdict_is_true_for_all_values(self):
        for state, values in itertools.product((1, 2), ([3], [1, 3], [1, 2, 5], [-7, 0, 7, 8])):
            records = [[value] for value in values] + ([[]] if state == 1 else []) + [values]
            for op, value in itertools.product(COMPARISONS, range(-8, 10)):
                condition = (op, ID, value)
                found = verdict(condition, {ID: "int"}, {ID: told_with("int", state, values)})
                held = [holds(condition, {ID: record}) for record in records]
                self.assertTrue(found == "perhaps" or found == "always" and all(held) or found == "never" and not any(held))


if __name__ == "__main__":
    unittest.main()
