"""Points 5.1 and 5.2: one value as bytes, and the values of a page in each encoding."""

import unittest

from stripestack.errors import BadFile
from stripestack.levels import put_levels
from stripestack.numbers import fold_sign, pack, put_number
from stripestack.values import allowed, put_one, put_values, take_one, take_values

LEAST = -2147483648
GREATEST = 2147483647
INTS = (0, 1, -1, 2, -2, 127, 128, 255, 256, -256, 65535, 16777216, LEAST, LEAST + 1, GREATEST, GREATEST - 1)
SIGNS = "".join([chr(code) for code in range(32, 127) if code != 37])
TEXTS = ("", "a", " ", "~", "red", "x" * 59, "x" * 60, SIGNS[:60], SIGNS[-60:])
LISTS = {
    "int": ([], [0], [-1], [LEAST], [GREATEST], list(INTS), [5] * 3, [5] * 4, [5] * 200, [1, 1, 2, 1, 3, 2] * 20,
            list(range(-150, 150)), [LEAST, GREATEST] * 3, [7, 7, 7, 7, 8, 8, 8, 8, 7]),
    "bool": ([], [True], [False], [True] * 8, [False] * 9, [True, False, True, True, False, False, True, False, True],
             [True, False] * 100),
    "text": ([], [""], ["a"], list(TEXTS), ["red"] * 4, ["red"] * 100, ["red", "blue", "red", "", "blue"] * 10,
             [f"n{number}" for number in range(200)]),
}


def one_by_the_words(kind, value):
    if kind == "int":
        return list(value.to_bytes(4, "little", signed=True))
    if kind == "bool":
        return [1] if value else [0]
    return [len(value)] + list(value.encode("ascii"))


def values_by_the_words(kind, values, encoding):
    if encoding == 0 and kind == "bool":
        return pack([1 if value else 0 for value in values], 1)
    if encoding == 0:
        return [byte for value in values for byte in one_by_the_words(kind, value)]
    if encoding == 1:
        order = []
        for value in values:
            if value not in order:
                order.append(value)
        plain = [byte for value in order for byte in one_by_the_words(kind, value)]
        return put_number(len(order)) + plain + put_levels([order.index(v) for v in values], max(0, len(order) - 1))
    return [byte for before, value in zip([0] + values, values) for byte in put_number(fold_sign(value - before))]


class ValuesCase(unittest.TestCase):
    def refused(self, take, *arguments):
        kept = [list(argument) if isinstance(argument, list) else argument for argument in arguments]
        with self.assertRaises(BadFile) as caught:
            take(*arguments)
        self.assertIsInstance(caught.exception.part, str)
        self.assertEqual(list(arguments), kept)

    def same(self, found, wanted):
        """True and 1 are equal for Python, so the kinds are compared, too."""
        self.assertEqual(found, wanted)
        self.assertEqual([type(value) for value in found], [type(value) for value in wanted])


class OneValueTest(ValuesCase):
    def both_ways(self, kind, value):
        data = one_by_the_words(kind, value)
        self.assertEqual(put_one(kind, value), data)
        for before in ([], [0], [255, 1]):
            for behind in ([], [0], [255, 37]):
                found, at = take_one(kind, before + data + behind, len(before))
                self.same([found], [value])
                self.assertEqual(at, len(before) + len(data))
        for length in range(len(data)):
            self.refused(take_one, kind, data[:length], 0)
        self.refused(take_one, kind, data, len(data))

    def test_ints(self):
        for value in INTS:
            self.both_ways("int", value)

    def test_bytes_of_ints(self):
        self.assertEqual(put_one("int", 1), [1, 0, 0, 0])
        self.assertEqual(put_one("int", -1), [255, 255, 255, 255])
        self.assertEqual(put_one("int", LEAST), [0, 0, 0, 128])
        self.assertEqual(put_one("int", GREATEST), [255, 255, 255, 127])

    def test_bools(self):
        self.both_ways("bool", False)
        self.both_ways("bool", True)

    def test_texts(self):
        for value in TEXTS:
            self.both_ways("text", value)

    def test_each_sign_of_a_text(self):
        for sign in SIGNS:
            self.both_ways("text", sign)

    def test_a_bool_above_1_is_refused(self):
        for byte in range(2, 256):
            self.refused(take_one, "bool", [byte, 0], 0)

    def test_signs_that_no_text_has_are_refused(self):
        for code in [*range(32), 37, *range(127, 256)]:
            for data in ([1, code], [3, code, 97, 98], [3, 97, code, 98], [3, 97, 98, code]):
                self.refused(take_one, "text", data, 0)

    def test_the_sign_37_behind_a_text_is_not_read(self):
        self.assertEqual(take_one("text", [1, 97, 37], 0), ("a", 2))

    def test_long_texts_are_refused(self):
        self.assertEqual(take_one("text", [60] + [97] * 60, 0), ("a" * 60, 61))
        for length in (61, 62, 100, 127, 128, 255, 256, 1000):
            self.refused(take_one, "text", put_number(length) + [97] * length, 0)

    def test_a_length_with_a_needless_byte_is_refused(self):
        self.refused(take_one, "text", [129, 0, 97], 0)
        self.refused(take_one, "text", [128, 0], 0)


class AllowedTest(unittest.TestCase):
    def test_each_kind(self):
        self.assertEqual(allowed("int"), (0, 1, 2))
        self.assertEqual(allowed("bool"), (0,))
        self.assertEqual(allowed("text"), (0, 1))


class EncodingsTest(ValuesCase):
    def test_all_lists_in_all_encodings(self):
        for kind, lists in LISTS.items():
            for values in lists:
                for encoding in allowed(kind):
                    with self.subTest(kind=kind, values=values[:10], encoding=encoding):
                        self.both_ways(kind, values, encoding)

    def both_ways(self, kind, values, encoding):
        kept = list(values)
        data = values_by_the_words(kind, values, encoding)
        self.assertEqual(put_values(kind, values, encoding), data)
        self.assertEqual(values, kept)
        for before in ([], [9], [255, 0]):
            for behind in ([], [0], [255, 37]):
                whole = before + data + behind
                found, at = take_values(kind, whole, len(before), len(values), encoding)
                self.same(found, values)
                self.assertEqual(at, len(before) + len(data))
        for length in range(0, len(data), 1 + len(data) // 50):
            self.refused(take_values, kind, data[:length], 0, len(values), encoding)
        if len(data) > 0:
            self.refused(take_values, kind, data[:-1], 0, len(values), encoding)

    def test_plain_bytes(self):
        self.assertEqual(put_values("int", [1, -1], 0), [1, 0, 0, 0, 255, 255, 255, 255])
        self.assertEqual(put_values("text", ["ab", "", "c"], 0), [2, 97, 98, 0, 1, 99])
        self.assertEqual(put_values("bool", [True, False, True, True], 0), [13])
        self.assertEqual(put_values("bool", [False] * 8 + [True], 0), [0, 1])

    def test_no_values(self):
        for kind in LISTS:
            self.assertEqual(put_values(kind, [], 0), [])
            self.assertEqual(take_values(kind, [255], 0, 0, 0), ([], 0))
        for kind in ("int", "text"):
            self.assertEqual(put_values(kind, [], 1), [0])
            self.assertEqual(take_values(kind, [0, 255], 0, 0, 1), ([], 1))
        self.assertEqual(put_values("int", [], 2), [])
        self.assertEqual(take_values("int", [255], 0, 0, 2), ([], 0))

    def test_bits_left_over_are_refused(self):
        self.assertEqual(take_values("bool", [15], 0, 4, 0), ([True] * 4, 1))
        for byte in (16, 31, 128, 255):
            self.refused(take_values, "bool", [byte], 0, 4, 0)

    def test_wrong_plain_values_are_refused(self):
        self.refused(take_values, "text", [1, 97, 1, 37], 0, 2, 0)
        self.refused(take_values, "text", [1, 97, 61] + [97] * 61, 0, 2, 0)


class DictionaryTest(ValuesCase):
    def test_the_order_is_that_of_the_first_occurrence(self):
        self.assertEqual(put_values("text", ["b", "a", "b", "c"], 1), [3, 1, 98, 1, 97, 1, 99, 9, 132])
        self.assertEqual(put_values("int", [9, 2, 9], 1), [2, 9, 0, 0, 0, 2, 0, 0, 0, 7, 2])

    def test_one_value_needs_no_levels(self):
        self.assertEqual(put_values("text", ["a"], 1), [1, 1, 97])
        self.assertEqual(put_values("int", [5] * 100, 1), [1, 5, 0, 0, 0])
        self.assertEqual(take_values("int", [1, 5, 0, 0, 0, 7], 0, 3, 1), ([5, 5, 5], 5))

    def test_many_equal_indexes_are_a_run(self):
        self.assertEqual(put_values("text", ["a", "b", "b", "b", "b"], 1), [2, 1, 97, 1, 98, 3, 0, 8, 1])

    def test_an_index_that_the_dictionary_does_not_have_is_refused(self):
        plain = [3, 1, 97, 1, 98, 1, 99]
        self.assertEqual(take_values("text", plain + put_levels([2, 1, 0], 2), 0, 3, 1), (["c", "b", "a"], 9))
        self.refused(take_values, "text", plain + put_levels([2, 3, 0], 3), 0, 3, 1)
        self.refused(take_values, "text", plain + [8, 3], 0, 4, 1)
        self.refused(take_values, "text", plain + [8, 200, 1], 0, 4, 1)

    def test_a_dictionary_without_values_has_no_index(self):
        for kind in ("int", "text"):
            self.refused(take_values, kind, [0], 0, 1, 1)
            self.refused(take_values, kind, [0, 8, 0, 0, 0, 0], 0, 4, 1)

    def test_a_number_with_too_few_values_behind_it_is_refused(self):
        for number in (1, 2, 100, 20000, 1 << 34):
            for count in (0, 1, 4):
                self.refused(take_values, "int", put_number(number), 0, count, 1)
                self.refused(take_values, "text", put_number(number), 0, count, 1)
        self.refused(take_values, "text", put_number(1 << 34) + [0] * 50, 0, 4, 1)

    def test_a_number_that_is_none_is_refused(self):
        self.refused(take_values, "text", [], 0, 0, 1)
        self.refused(take_values, "text", [129, 0, 1, 97], 0, 1, 1)
        self.refused(take_values, "text", [255] * 9, 0, 1, 1)

    def test_wrong_values_of_a_dictionary_are_refused(self):
        self.refused(take_values, "text", [1, 1, 37], 0, 1, 1)
        self.refused(take_values, "text", [1, 61] + [97] * 61, 0, 1, 1)


class DifferencesTest(ValuesCase):
    def test_bytes(self):
        self.assertEqual(put_values("int", [3, 5, 4, 4], 2), [6, 4, 1, 0])
        self.assertEqual(put_values("int", [-1], 2), [1])
        self.assertEqual(put_values("int", [LEAST], 2), [255, 255, 255, 255, 15])

    def test_the_greatest_differences(self):
        self.assertEqual(put_values("int", [LEAST, GREATEST], 2), [255, 255, 255, 255, 15, 254, 255, 255, 255, 31])
        self.assertEqual(take_values("int", put_values("int", [GREATEST, LEAST], 2), 0, 2, 2)[0], [GREATEST, LEAST])

    def test_differences_out_of_the_range_are_refused(self):
        for start, step in ((GREATEST, 1), (LEAST, -1), (0, GREATEST + 1), (0, LEAST - 1), (1, GREATEST), (-2, LEAST)):
            data = put_number(fold_sign(start)) + put_number(fold_sign(step))
            self.refused(take_values, "int", data, 0, 2, 2)
            # What leads back into the range does not make it good.
            self.refused(take_values, "int", data + put_number(fold_sign(-step)), 0, 3, 2)
        for value in (GREATEST + 1, LEAST - 1, 1 << 33, -(1 << 33)):
            self.refused(take_values, "int", put_number(fold_sign(value)), 0, 1, 2)

    def test_numbers_that_are_none_are_refused(self):
        self.refused(take_values, "int", [128, 0], 0, 1, 2)
        self.refused(take_values, "int", [255, 255, 255, 255, 255, 0], 0, 1, 2)


if __name__ == "__main__":
    unittest.main()
