"""Point 4.3: levels, written as runs and pieces, and read again."""

import copy
import itertools
import unittest

from stripestack.errors import BadFile
from stripestack.levels import put_levels, take_levels
from stripestack.numbers import pack, put_number, take_number, width_of

# Every two neighbours differ, so that no run stands in any part of it.
MIXED = [0, 1, 2, 1, 0, 2] * 40


def run(length, value):
    return put_number(2 * length) + put_number(value)


def piece(numbers, most):
    return put_number(2 * len(numbers) + 1) + pack(list(numbers), width_of(most))


def written_by_the_words(numbers, most):
    """Write levels by groups of equal numbers, cut into pieces of 32 at most."""
    if most == 0:
        return []
    stretches = [list(group) for _, group in itertools.groupby(numbers)]
    parts = []
    for stretch in stretches:
        if len(stretch) >= 4:
            parts.append(("run", stretch))
        elif parts and parts[-1][0] == "piece":
            parts[-1] = ("piece", parts[-1][1] + stretch)
        else:
            parts.append(("piece", stretch))
    written = []
    for form, part in parts:
        if form == "run":
            written += run(len(part), part[0])
        else:
            for at in range(0, len(part), 32):
                written += piece(part[at:at + 32], most)
    return written


def many_lists():
    """Return lists of levels up to 2 in which stretches of several lengths stand side by side."""
    lengths = (1, 2, 3, 4, 5, 31, 32, 33)
    lists = []
    for count in (1, 2, 3):
        for chosen in itertools.product(lengths, repeat=count):
            lists.append([at % 3 for at, length in enumerate(chosen) for _ in range(length)])
            lists.append([number for at, length in enumerate(chosen)
                          for number in (MIXED[:length] if at % 2 == 0 else [1] * length)])
    return lists


class LevelsCase(unittest.TestCase):
    def refused(self, data, at, count, most):
        before = list(data)
        with self.assertRaises(BadFile) as caught:
            take_levels(data, at, count, most)
        self.assertIsInstance(caught.exception.part, str)
        self.assertEqual(data, before)

    def both_ways(self, numbers, most, data):
        """The numbers are written as these bytes, and read from them, with other bytes around."""
        kept = list(numbers)
        self.assertEqual(put_levels(numbers, most), data)
        self.assertEqual(numbers, kept)
        count = len(numbers)
        self.assertEqual(take_levels(data, 0, count, most), (numbers, len(data)))
        for before in ([], [0], [255, 1]):
            for behind in ([0], [255], [3, 1, 8, 0]):
                found = take_levels(before + data + behind, len(before), count, most)
                self.assertEqual(found, (numbers, len(before) + len(data)))


class WidthNoneTest(LevelsCase):
    def test_no_bytes(self):
        for count in (0, 1, 3, 4, 5, 32, 33, 1000):
            self.both_ways([0] * count, 0, [])

    def test_bytes_around_are_not_looked_into(self):
        self.assertEqual(take_levels([0, 0], 1, 5, 0), ([0] * 5, 1))
        self.assertEqual(take_levels([255], 1, 5, 0), ([0] * 5, 1))


class RunsTest(LevelsCase):
    def test_no_numbers(self):
        for most in range(20):
            self.both_ways([], most, [])

    def test_plain_forms(self):
        self.both_ways([1, 1, 1, 1], 1, [8, 1])
        self.both_ways([0, 0, 0, 0], 1, [8, 0])
        self.both_ways([1, 1, 1], 1, [7, 7])
        self.both_ways([0, 1], 1, [5, 2])
        self.both_ways([1], 1, [3, 1])
        self.both_ways([0], 1, [3, 0])
        self.both_ways([2], 2, [3, 2])
        self.both_ways([1, 2, 3], 3, [7, 57])

    def test_runs_alone(self):
        for length in (4, 5, 6, 31, 32, 33, 63, 64, 65, 127, 128, 1000, 20000):
            for value in (0, 1, 5, 7):
                self.both_ways([value] * length, 7, run(length, value))

    def test_three_equal_numbers_are_no_run(self):
        for value in (0, 1, 2):
            self.both_ways([value] * 3, 2, piece([value] * 3, 2))

    def test_a_run_at_the_beginning(self):
        for length in (4, 5, 40):
            self.both_ways([2] * length + [0, 1], 2, run(length, 2) + piece([0, 1], 2))
        self.both_ways([2] * 3 + [0, 1], 2, piece([2, 2, 2, 0, 1], 2))

    def test_a_run_in_the_middle(self):
        for length in (4, 5, 40):
            self.both_ways([0, 1] + [2] * length + [1], 2, piece([0, 1], 2) + run(length, 2) + piece([1], 2))
        self.both_ways([0, 1] + [2] * 3 + [1], 2, piece([0, 1, 2, 2, 2, 1], 2))

    def test_a_run_at_the_end(self):
        for length in (4, 5, 40):
            self.both_ways([0, 1] + [2] * length, 2, piece([0, 1], 2) + run(length, 2))
        self.both_ways([0, 1] + [2] * 3, 2, piece([0, 1, 2, 2, 2], 2))

    def test_runs_side_by_side(self):
        self.both_ways([0] * 4 + [1] * 4, 1, run(4, 0) + run(4, 1))
        self.both_ways([0] * 4 + [1] * 3 + [0] * 5, 1, run(4, 0) + piece([1, 1, 1], 1) + run(5, 0))
        self.both_ways([0] * 3 + [1] * 3 + [0] * 3, 1, piece([0, 0, 0, 1, 1, 1, 0, 0, 0], 1))

    def test_a_great_value_of_a_run_takes_two_bytes(self):
        self.both_ways([300] * 5, 300, [10, 172, 2])
        self.both_ways([128] * 70, 128, [140, 1, 128, 1])


class PiecesTest(LevelsCase):
    def test_pieces_are_cut_after_32_numbers(self):
        for length in (31, 32, 33, 63, 64, 65, 96, 97, 200):
            numbers = MIXED[:length]
            cut = [numbers[at:at + 32] for at in range(0, length, 32)]
            self.both_ways(numbers, 2, [byte for part in cut for byte in piece(part, 2)])

    def test_numbers_of_the_pieces(self):
        written = put_levels(MIXED[:64], 2)
        self.assertEqual(take_number(written, 0)[0], 65)
        self.assertEqual(len(written), 2 * (1 + 8))
        written = put_levels(MIXED[:33], 2)
        self.assertEqual(written[:9], [65] + pack(MIXED[:32], 2))
        self.assertEqual(written[9:], [3] + pack(MIXED[32:33], 2))
        self.assertEqual(put_levels(MIXED[:31], 2), [63] + pack(MIXED[:31], 2))

    def test_a_run_behind_a_piece(self):
        for length in (31, 32, 33, 64):
            numbers = MIXED[:length]
            cut = [numbers[at:at + 32] for at in range(0, length, 32)]
            data = [byte for part in cut for byte in piece(part, 3)]
            self.both_ways(numbers + [3] * 4, 3, data + run(4, 3))
            self.both_ways([3] * 4 + numbers, 3, run(4, 3) + data)

    def test_a_piece_is_counted_from_the_run_before_it(self):
        numbers = MIXED[:10] + [3] * 6 + MIXED[:40]
        data = piece(MIXED[:10], 3) + run(6, 3) + piece(MIXED[:32], 3) + piece(MIXED[32:40], 3)
        self.both_ways(numbers, 3, data)

    def test_equal_numbers_over_the_end_of_a_piece(self):
        # Three equal numbers are cut like all others; four end the piece before it is full.
        numbers = MIXED[:30] + [3] * 3 + MIXED[:5]
        self.both_ways(numbers, 3, piece(numbers[:32], 3) + piece(numbers[32:], 3))
        numbers = MIXED[:30] + [3] * 4 + MIXED[:5]
        self.both_ways(numbers, 3, piece(MIXED[:30], 3) + run(4, 3) + piece(MIXED[:5], 3))


class EveryListTest(LevelsCase):
    def test_every_short_list(self):
        for most, length in ((1, 9), (2, 6), (3, 5)):
            for count in range(length + 1):
                for chosen in itertools.product(range(most + 1), repeat=count):
                    numbers = list(chosen)
                    written = put_levels(numbers, most)
                    self.assertEqual(written, written_by_the_words(numbers, most))
                    self.assertEqual(take_levels(written, 0, count, most), (numbers, len(written)))

    def test_lists_of_several_stretches(self):
        for numbers in many_lists():
            for most in (2, 3, 9, 255):
                written = put_levels(numbers, most)
                self.assertEqual(written, written_by_the_words(numbers, most))
                data = [1] + written + [0]
                self.assertEqual(take_levels(data, 1, len(numbers), most), (numbers, len(data) - 1))

    def test_every_width(self):
        for width in range(1, 16):
            for most in (2 ** (width - 1), 2 ** width - 1):
                numbers = [k * 977 % (most + 1) for k in range(50)] + [most] * 4 + [0] * 3 + [most]
                self.both_ways(numbers, most, written_by_the_words(numbers, most))

    def test_a_long_list(self):
        numbers = [k * k // 50 % 4 for k in range(20000)]
        self.both_ways(numbers, 3, written_by_the_words(numbers, 3))


class ReadingTest(LevelsCase):
    def test_runs_and_pieces_of_any_lengths(self):
        for length in (1, 2, 3, 4, 31, 32, 33, 34, 64, 100, 1000):
            self.assertEqual(take_levels(run(length, 2), 0, length, 2), ([2] * length, len(run(length, 2))))
            for numbers in ([1] * length, (MIXED * 5)[:length]):
                data = piece(numbers, 2)
                self.assertEqual(take_levels(data, 0, length, 2), (numbers, len(data)))

    def test_parts_in_any_order(self):
        data = run(1, 1) + run(2, 1) + piece([0], 1) + piece([0] * 40, 1) + run(1, 0) + run(1, 0)
        numbers = [1, 1, 1] + [0] * 43
        self.assertEqual(take_levels(data, 0, 46, 1), (numbers, len(data)))

    def test_it_ends_after_so_many_numbers(self):
        data = run(5, 1) + run(5, 1) + piece([0, 1], 1)
        self.assertEqual(take_levels(data, 0, 0, 1), ([], 0))
        self.assertEqual(take_levels(data, 0, 5, 1), ([1] * 5, 2))
        self.assertEqual(take_levels(data, 2, 5, 1), ([1] * 5, 4))
        self.assertEqual(take_levels(data, 0, 10, 1), ([1] * 10, 4))
        self.assertEqual(take_levels(data, 0, 12, 1), ([1] * 10 + [0, 1], 6))

    def test_a_length_of_0(self):
        for most in (1, 2, 300):
            for count in (1, 4, 40):
                self.refused([0, 1] + run(count, 1), 0, count, most)
                self.refused([0], 0, count, most)
                self.refused([1] + run(count, 1), 0, count, most)
                self.refused([1], 0, count, most)
        self.refused(run(4, 1) + [0, 1] + run(4, 1), 0, 8, 1)
        self.refused(run(4, 1) + [1] + run(4, 1), 0, 8, 1)

    def test_more_numbers_than_asked_for(self):
        for count in (1, 2, 3, 4, 31, 32, 33, 100):
            for more in (1, 2, 100):
                self.refused(run(count + more, 1), 0, count, 1)
                self.refused(piece([1] * (count + more), 1), 0, count, 1)
            self.refused(run(3, 1) + run(count + 1, 0), 0, count + 3, 1)
            self.refused(piece([1, 0, 1], 1) + piece([1] * (count + 1), 1), 0, count + 3, 1)

    def test_a_huge_length(self):
        self.refused(put_number(2 ** 35 - 2) + [1], 0, 1000, 1)
        self.refused(put_number(2 ** 35 - 1) + [1], 0, 1000, 1)

    def test_a_number_greater_than_the_greatest(self):
        for most in (1, 2, 3, 4, 5, 6, 7, 8, 12, 100, 300):
            good = [0, most, 1]
            self.assertEqual(take_levels(piece(good, most), 0, 3, most)[0], good)
            self.assertEqual(take_levels(run(5, most), 0, 5, most)[0], [most] * 5)
            for bad in range(most + 1, most + 400):
                self.refused(run(5, bad), 0, 5, most)
                if width_of(bad) == width_of(most):
                    for at in range(4):
                        numbers = [0, most, 1]
                        numbers.insert(at, bad)
                        self.refused(piece(numbers, most), 0, 4, most)
                        self.refused(run(2, most) + piece(numbers, most), 0, 6, most)

    def test_bytes_cut_short(self):
        for numbers in ([1] * 4, [1] * 200, [0, 1, 2, 0], MIXED[:33], MIXED[:10] + [2] * 5 + MIXED[:40]):
            written = put_levels(numbers, 2)
            for length in range(len(written)):
                self.refused(written[:length], 0, len(numbers), 2)
                self.refused([6] + written[:length], 1, len(numbers), 2)

    def test_too_few_numbers_in_the_bytes(self):
        for data in ([], run(3, 1), piece([1, 0, 1], 1), run(1, 0) + run(2, 1)):
            self.refused(data, 0, 4, 1)

    def test_left_over_bits_of_a_piece(self):
        for bit in range(3, 8):
            self.refused([7, 7 + 2 ** bit], 0, 3, 1)
        self.assertEqual(take_levels([7, 7], 0, 3, 1), ([1, 1, 1], 2))

    def test_needless_bytes_of_the_numbers(self):
        self.refused([136, 0, 1], 0, 4, 1)
        self.refused([8, 129, 0], 0, 4, 1)
        self.refused([135, 0, 7], 0, 3, 1)

    def test_every_list_of_bytes_is_read_or_refused(self):
        for chosen in itertools.product((0, 1, 2, 3, 5, 6, 8, 9, 128, 255), repeat=4):
            data = list(chosen)
            try:
                found, at = take_levels(data, 0, 4, 2)
            except BadFile:
                continue
            self.assertEqual(len(found), 4)
            self.assertTrue(all([0 <= level <= 2 for level in found]))
            self.assertLessEqual(at, 4)
            self.assertEqual(data, list(chosen))


class ArgumentsTest(LevelsCase):
    def test_arguments_stay_as_they_were(self):
        numbers = MIXED[:40] + [1] * 9
        before = copy.deepcopy(numbers)
        data = put_levels(numbers, 2)
        self.assertEqual(numbers, before)
        kept = list(data)
        found, _ = take_levels(data, 0, len(numbers), 2)
        found.append(7)
        self.assertEqual(data, kept)


if __name__ == "__main__":
    unittest.main()
