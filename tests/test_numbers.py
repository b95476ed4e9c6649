"""Points 4.1 and 4.2: numbers, words, folded signs and packed numbers."""

import copy
import itertools
import unittest

from stripestack.errors import BadFile
from stripestack.numbers import (
    fold_sign, pack, put_number, put_word, take_number, take_word, unfold_sign, unpack, width_of,
)

GREATEST_OF_FIVE = 2 ** 35 - 1
FORMS = {
    0: [0],
    1: [1],
    5: [5],
    126: [126],
    127: [127],
    128: [128, 1],
    129: [129, 1],
    255: [255, 1],
    256: [128, 2],
    300: [172, 2],
    16383: [255, 127],
    16384: [128, 128, 1],
    2 ** 21 - 1: [255, 255, 127],
    2 ** 21: [128, 128, 128, 1],
    2 ** 28 - 1: [255, 255, 255, 127],
    2 ** 28: [128, 128, 128, 128, 1],
    2 ** 32 - 1: [255, 255, 255, 255, 15],
    2 ** 32: [128, 128, 128, 128, 16],
    GREATEST_OF_FIVE: [255, 255, 255, 255, 127],
}
WORDS = {
    0: [0, 0, 0, 0],
    1: [1, 0, 0, 0],
    255: [255, 0, 0, 0],
    256: [0, 1, 0, 0],
    65536: [0, 0, 1, 0],
    16777216: [0, 0, 0, 1],
    0x04030201: [1, 2, 3, 4],
    2 ** 31 - 1: [255, 255, 255, 127],
    2 ** 31: [0, 0, 0, 128],
    2 ** 32 - 1: [255, 255, 255, 255],
}
# Numbers beyond the words, and the words that they are written as.
BEYOND = {
    2 ** 32: 0,
    2 ** 32 + 1: 1,
    2 ** 40 + 0x04030201: 0x04030201,
    3 * 2 ** 32 - 1: 2 ** 32 - 1,
    -1: 2 ** 32 - 1,
    -2: 2 ** 32 - 2,
    -256: 2 ** 32 - 256,
    -2 ** 31: 2 ** 31,
    -2 ** 32: 0,
    -2 ** 32 - 1: 2 ** 32 - 1,
}


def around_powers(most):
    """Return numbers on both sides of the powers of 2 up to a greatest exponent."""
    near = [2 ** exponent + more for exponent in range(most + 1) for more in (-2, -1, 0, 1, 2)]
    return sorted({number for number in near if number >= 0})


def bits_packed(numbers, width):
    """Pack numbers by way of a string of bits."""
    bits = "".join([format(number, "b").zfill(width)[::-1] for number in numbers if width > 0])
    bits += "0" * (-len(bits) % 8)
    return [int(bits[at:at + 8][::-1], 2) for at in range(0, len(bits), 8)]


def some_numbers(count, width):
    """Return numbers of a width that look mixed, with the least and the greatest among them."""
    mixed = [(k * 2654435761 + 12345 >> 7) % 2 ** width for k in range(count)]
    return [2 ** width - 1 if k % 7 == 3 else 0 if k % 11 == 5 else number for k, number in enumerate(mixed)]


class NumbersCase(unittest.TestCase):
    def refused(self, function, *arguments):
        before = copy.deepcopy(arguments)
        with self.assertRaises(BadFile) as caught:
            function(*arguments)
        self.assertIsInstance(caught.exception.part, str)
        self.assertEqual(arguments, before)


class NumberTest(NumbersCase):
    def test_forms(self):
        for number, form in FORMS.items():
            with self.subTest(number=number):
                self.assertEqual(put_number(number), form)
                self.assertEqual(take_number(form, 0), (number, len(form)))

    def test_reading_what_was_written(self):
        for number in list(range(70000)) + around_powers(34) + [GREATEST_OF_FIVE]:
            written = put_number(number)
            self.assertEqual(take_number(written, 0), (number, len(written)))

    def test_forms_by_the_words_of_the_point(self):
        for number in range(0, 40000, 7):
            written = put_number(number)
            self.assertIsInstance(written, list)
            self.assertTrue(all([byte >= 128 for byte in written[:-1]]))
            self.assertLess(written[-1], 128)
            self.assertTrue(written[-1] != 0 or written == [0])
            self.assertEqual(sum([byte % 128 * 128 ** k for k, byte in enumerate(written)]), number)

    def test_no_error_for_a_number_beyond_five_bytes(self):
        self.assertEqual(put_number(2 ** 35), [128, 128, 128, 128, 128, 1])

    def test_other_bytes_around(self):
        for number, form in FORMS.items():
            for before in ([], [0], [255, 255], [128] * 7):
                for behind in ([], [0], [1], [255], [128, 0]):
                    found = take_number(before + form + behind, len(before))
                    self.assertEqual(found, (number, len(before) + len(form)))

    def test_every_form_of_one_and_two_bytes(self):
        for byte in range(128):
            self.assertEqual(take_number([byte], 0), (byte, 1))
        for low, high in itertools.product(range(128, 256), range(1, 128)):
            self.assertEqual(take_number([low, high], 0), (low - 128 + 128 * high, 2))

    def test_a_needless_last_byte(self):
        for length in range(1, 5):
            for low in (128, 129, 255):
                self.refused(take_number, [low] * length + [0], 0)
                self.refused(take_number, [low] * length + [0, 5], 0)
                self.refused(take_number, [9] + [low] * length + [0], 1)

    def test_a_zero_in_the_middle_is_needed(self):
        self.assertEqual(take_number([128, 128, 1], 0), (16384, 3))

    def test_a_sixth_byte(self):
        for last in (0, 1, 127, 128, 255):
            self.refused(take_number, [128] * 5 + [last], 0)
            self.refused(take_number, [255] * 5 + [last], 0)
            self.refused(take_number, [255] * 5 + [last, 0], 0)
            self.refused(take_number, [7] + [129] * 5 + [last], 1)

    def test_bytes_cut_short(self):
        self.refused(take_number, [], 0)
        self.refused(take_number, [1, 2], 2)
        for form in FORMS.values():
            for length in range(len(form)):
                self.refused(take_number, form[:length], 0)
                self.refused(take_number, [3] + form[:length], 1)
        self.refused(take_number, [128] * 5, 0)


class WordTest(NumbersCase):
    def test_forms(self):
        for word, form in WORDS.items():
            with self.subTest(word=word):
                self.assertEqual(put_word(word), form)
                self.assertEqual(take_word(form, 0), (word, 4))

    def test_numbers_beyond_a_word(self):
        for number, word in BEYOND.items():
            with self.subTest(number=number):
                self.assertEqual(take_word(put_word(number), 0), (word, 4))

    def test_four_bytes_always(self):
        for number in around_powers(40) + [-number for number in around_powers(40)]:
            written = put_word(number)
            self.assertIsInstance(written, list)
            self.assertEqual(len(written), 4)
            self.assertTrue(all([0 <= byte <= 255 for byte in written]))
            self.assertEqual(take_word(written, 0), (number % 2 ** 32, 4))

    def test_other_bytes_around(self):
        for word, form in WORDS.items():
            self.assertEqual(take_word([9, 8] + form, 2), (word, 6))
            self.assertEqual(take_word([9, 8, 7] + form + [0, 255], 3), (word, 7))

    def test_bytes_cut_short(self):
        for length in range(4):
            self.refused(take_word, [1, 2, 3, 4][:length], 0)
            self.refused(take_word, [9] * 5 + [0] * length, 5)
        self.refused(take_word, [1, 2, 3, 4], 1)
        self.refused(take_word, [1, 2, 3, 4], 4)


class SignTest(NumbersCase):
    def test_small_numbers(self):
        for number, folded in ((0, 0), (-1, 1), (1, 2), (-2, 3), (2, 4), (-3, 5), (64, 128), (-64, 127)):
            self.assertEqual(fold_sign(number), folded)
            self.assertEqual(unfold_sign(folded), number)

    def test_great_numbers(self):
        for exponent in (7, 31, 32, 40, 62):
            great = 2 ** exponent
            for number, folded in ((great, 2 * great), (-great, 2 * great - 1), (great - 1, 2 * great - 2),
                                   (-great - 1, 2 * great + 1)):
                self.assertEqual(fold_sign(number), folded)
                self.assertEqual(unfold_sign(folded), number)

    def test_each_number_from_0_stands_for_one_integer(self):
        unfolded = [unfold_sign(folded) for folded in range(2000)]
        self.assertEqual(sorted(unfolded), list(range(-1000, 1000)))
        self.assertEqual([fold_sign(number) for number in unfolded], list(range(2000)))


class WidthTest(NumbersCase):
    def test_widths(self):
        for most, width in ((0, 0), (1, 1), (2, 2), (3, 2), (4, 3), (7, 3), (8, 4), (255, 8), (256, 9), (20000, 15)):
            self.assertEqual(width_of(most), width)

    def test_ends_of_each_width(self):
        for width in range(1, 40):
            self.assertEqual(width_of(2 ** width - 1), width)
            self.assertEqual(width_of(2 ** (width - 1)), width)


class PackTest(NumbersCase):
    def test_forms(self):
        self.assertEqual(pack([1], 1), [1])
        self.assertEqual(pack([0, 1], 1), [2])
        self.assertEqual(pack([1, 0, 1, 1, 0, 0, 0, 1], 1), [141])
        self.assertEqual(pack([1, 0, 1, 1, 0, 0, 0, 1, 1], 1), [141, 1])
        self.assertEqual(pack([1, 2, 3], 2), [57])
        self.assertEqual(pack([1, 2, 3, 4], 3), [209, 8])
        self.assertEqual(pack([5], 3), [5])
        self.assertEqual(pack([1, 2], 8), [1, 2])
        self.assertEqual(pack([256, 1], 9), [0, 3, 0])
        self.assertEqual(pack([0xABC], 12), [0xBC, 0x0A])
        self.assertEqual(pack([0xABC, 0x123], 12), [0xBC, 0x3A, 0x12])

    def test_no_numbers(self):
        for width in range(20):
            self.assertEqual(pack([], width), [])
            self.assertEqual(unpack([], 0, 0, width), ([], 0))
            self.assertEqual(unpack([1, 2, 3], 2, 0, width), ([], 2))
            self.assertEqual(unpack([1, 2, 3], 3, 0, width), ([], 3))

    def test_width_0(self):
        for count in range(20):
            self.assertEqual(pack([0] * count, 0), [])
            self.assertEqual(unpack([], 0, count, 0), ([0] * count, 0))
            self.assertEqual(unpack([255, 255], 1, count, 0), ([0] * count, 1))

    def test_every_list_of_a_small_width(self):
        for width, count in ((1, 9), (2, 5), (3, 3)):
            for numbers in itertools.product(range(2 ** width), repeat=count):
                packed = pack(list(numbers), width)
                self.assertEqual(packed, bits_packed(numbers, width))
                self.assertEqual(unpack(packed, 0, count, width), (list(numbers), len(packed)))

    def test_every_width_and_count(self):
        for width in range(20):
            for count in range(40):
                numbers = some_numbers(count, width)
                packed = pack(numbers, width)
                self.assertIsInstance(packed, list)
                self.assertEqual(packed, bits_packed(numbers, width))
                self.assertEqual(len(packed), (width * count + 7) // 8)
                self.assertEqual(unpack(packed, 0, count, width), (numbers, len(packed)))

    def test_a_long_list(self):
        numbers = some_numbers(20000, 15)
        packed = pack(numbers, 15)
        self.assertEqual(packed, bits_packed(numbers, 15))
        self.assertEqual(unpack(packed, 0, 20000, 15), (numbers, 37500))

    def test_other_bytes_around(self):
        for width in range(1, 13):
            for count in range(1, 12):
                numbers = some_numbers(count, width)
                data = [255, 7] + pack(numbers, width) + [255, 1, 0]
                self.assertEqual(unpack(data, 2, count, width), (numbers, len(data) - 3))

    def test_every_left_over_bit(self):
        for width in range(1, 13):
            for count in range(1, 12):
                for numbers in (some_numbers(count, width), [0] * count, [2 ** width - 1] * count):
                    packed = pack(numbers, width)
                    for bit in range(width * count, 8 * len(packed)):
                        changed = list(packed)
                        changed[-1] |= 1 << bit % 8
                        self.refused(unpack, changed, 0, count, width)
                        self.refused(unpack, [0] + changed + [0], 1, count, width)

    def test_every_other_bit_belongs_to_a_number(self):
        for width in range(1, 13):
            for count in range(1, 12):
                packed = pack([0] * count, width)
                for bit in range(width * count):
                    changed = list(packed)
                    changed[bit // 8] = 1 << bit % 8
                    numbers = [0] * count
                    numbers[bit // width] = 1 << bit % width
                    self.assertEqual(unpack(changed, 0, count, width), (numbers, len(packed)))

    def test_bytes_cut_short(self):
        for width in range(1, 20):
            for count in range(1, 20):
                packed = pack(some_numbers(count, width), width)
                for length in range(len(packed)):
                    self.refused(unpack, packed[:length], 0, count, width)
                    self.refused(unpack, [1, 2] + packed[:length], 2, count, width)

    def test_arguments_stay_as_they_were(self):
        numbers = [3, 1, 2]
        packed = pack(numbers, 2)
        self.assertEqual(numbers, [3, 1, 2])
        kept = list(packed)
        unpack(packed, 0, 3, 2)
        take_number([1], 0)
        self.assertEqual(packed, kept)


class ArgumentsTest(NumbersCase):
    def test_reading_leaves_the_bytes_as_they_were(self):
        data = [129, 1, 0, 3, 7, 9]
        take_number(data, 0)
        take_word(data, 1)
        unpack(data, 0, 9, 4)
        self.assertEqual(data, [129, 1, 0, 3, 7, 9])


if __name__ == "__main__":
    unittest.main()
