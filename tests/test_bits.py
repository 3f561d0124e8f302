"""Points 7, 8 and 9."""

import unittest

from lodge.bits import ones_before, read_bits, width_for, written
from lodge.errors import NoBits
from tests.helper import AskCase

# Every sign that a text that is handed in may have, but for 0 and 1.
OTHER_SIGNS = [chr(code) for code in range(32, 127) if chr(code) not in "01"] + ["\t", "\n"]


def row_by_the_document(numbers, width):
    return "".join(f"{number:0{width}b}" for number in numbers)


def some_numbers(width):
    greatest = 2 ** width - 1
    return [0, greatest, 1, greatest - 1, greatest // 2, greatest // 3, greatest // 2 + 1, 0, greatest]


class WrittenTest(AskCase):
    def test_worked_by_hand(self):
        for numbers, width, told in [
            ([0], 1, "0"), ([1], 1, "1"), ([1, 0, 1, 1], 1, "1011"), ([1, 2, 3, 0], 2, "01101100"),
            ([5], 3, "101"), ([5], 5, "00101"), ([4, 1], 3, "100001"), ([6], 8, "00000110"),
        ]:
            self.tells(told, written, numbers, width)

    def test_no_numbers(self):
        for width in (1, 2, 32, 64):
            self.tells("", written, [], width)

    def test_each_width(self):
        for width in range(1, 65):
            numbers = some_numbers(width)
            self.tells(row_by_the_document(numbers, width), written, numbers, width)
            self.tells("0" * (3 * width), written, [0, 0, 0], width)
            self.tells("1" * width, written, [2 ** width - 1], width)
            self.tells("1" + "0" * (width - 1), written, [2 ** (width - 1)], width)

    def test_two_thousand_numbers(self):
        numbers = list(range(2000))
        self.tells(row_by_the_document(numbers, 64), written, numbers, 64)

    def test_below_0_or_too_great(self):
        for width in range(1, 65):
            for wrong in (-1, -2, -2 ** width, 2 ** width, 2 ** width + 1, 2 ** (width + 1), 10 ** 39, -10 ** 39):
                self.refused(NoBits, 0, written, [wrong], width)
                self.refused(NoBits, 0, written, [wrong, 0, 1], width)
                self.refused(NoBits, 2, written, [0, 1, wrong, 1], width)
                self.refused(NoBits, 3, written, [0, 1, 1, wrong], width)

    def test_of_several_the_first(self):
        self.refused(NoBits, 1, written, [3, 4, -1, 4], 2)
        self.refused(NoBits, 1, written, [3, -1, 4, -1], 2)
        self.refused(NoBits, 0, written, [-1, -1], 2)

    def test_neither_true_nor_false_is_a_number(self):
        self.refused(NoBits, 1, written, [1, True], 1)
        self.refused(NoBits, 0, written, [False], 1)

    def test_beyond_the_widths_nothing_is_refused(self):
        for width in (65, 66, 100):
            numbers = some_numbers(width)
            self.tells(row_by_the_document(numbers, width), written, numbers, width)
            self.refused(NoBits, 1, written, [0, 2 ** width], width)
        self.tells("", written, [0, 0], 0)
        self.refused(NoBits, 1, written, [0, 1], 0)


class ReadBitsTest(AskCase):
    def test_worked_by_hand(self):
        for bits, width, told in [
            ("0", 1, [0]), ("1", 1, [1]), ("1011", 1, [1, 0, 1, 1]), ("01101100", 2, [1, 2, 3, 0]),
            ("101", 3, [5]), ("00101", 5, [5]), ("100001", 3, [4, 1]), ("01101100", 4, [6, 12]),
            ("01101100", 8, [108]),
        ]:
            self.tells(told, read_bits, bits, width)

    def test_an_empty_row(self):
        for width in (1, 2, 32, 64):
            self.tells([], read_bits, "", width)

    def test_what_was_written_is_read_again(self):
        for width in range(1, 65):
            numbers = some_numbers(width)
            self.tells(numbers, read_bits, written(numbers, width), width)
            self.tells(numbers, read_bits, row_by_the_document(numbers, width), width)
            self.tells([0, 0, 0], read_bits, "0" * (3 * width), width)
            self.tells([2 ** width - 1], read_bits, "1" * width, width)

    def test_what_was_read_is_written_again(self):
        bits = "0110100110010110" * 12
        for width in (1, 2, 3, 4, 6, 8, 12, 16, 24, 32, 48, 64):
            self.tells(bits, written, read_bits(bits, width), width)

    def test_another_sign(self):
        for sign in OTHER_SIGNS:
            self.refused(NoBits, 0, read_bits, sign, 1)
            self.refused(NoBits, 0, read_bits, sign + "001", 2)
            self.refused(NoBits, 2, read_bits, "01" + sign + "1", 2)
            self.refused(NoBits, 3, read_bits, "010" + sign, 2)

    def test_of_several_other_signs_the_first(self):
        self.refused(NoBits, 1, read_bits, "0a1b", 2)
        self.refused(NoBits, 2, read_bits, "01 2", 2)

    def test_a_length_that_is_no_multiple(self):
        for width in range(2, 65):
            for length in (1, width - 1, width + 1, 2 * width - 1, 2 * width + 1):
                if length % width:
                    self.refused(NoBits, length, read_bits, "01" * (length // 2) + "1" * (length % 2), width)

    def test_another_sign_goes_ahead_of_the_length(self):
        self.refused(NoBits, 4, read_bits, "0101x", 2)
        self.refused(NoBits, 0, read_bits, "x01", 2)
        self.refused(NoBits, 3, read_bits, "010", 2)

    def test_beyond_the_widths_nothing_is_refused(self):
        for width in (65, 66, 100):
            numbers = some_numbers(width)
            self.tells(numbers, read_bits, row_by_the_document(numbers, width), width)
        self.tells([], read_bits, "", 0)

    def test_no_length_but_0_is_a_multiple_of_0(self):
        self.refused(NoBits, 2, read_bits, "01", 0)

    def test_a_told_list_is_the_askers_own(self):
        for bits, width in (("", 1), ("0110", 1), ("0110", 2)):
            self.tells_own_lists(read_bits, bits, width)


class OnesBeforeTest(AskCase):
    def test_worked_by_hand(self):
        for place, told in enumerate([0, 0, 1, 2, 2, 3]):
            self.tells(told, ones_before, "01101", place)

    def test_each_place(self):
        for bits in ("", "0", "1", "00", "11", "10" * 9, "0110100110010110", "1" * 500 + "0" * 500, "0" * 64):
            ones = 0
            for place, sign in enumerate(bits):
                self.tells(ones, ones_before, bits, place)
                ones = ones + int(sign)
            self.tells(ones, ones_before, bits, len(bits))

    def test_beyond_the_places_nothing_is_refused(self):
        for place in (5, 6, 10 ** 39):
            self.tells(3, ones_before, "1101", place)
        for place in (-1, -2, -9):
            self.tells(0, ones_before, "1101", place)


class WidthForTest(AskCase):
    def test_small_numbers(self):
        for number, told in enumerate([1, 1, 2, 2, 3, 3, 3, 3, 4, 4, 4, 4, 4, 4, 4, 4, 5], start=1):
            self.tells(told, width_for, number)

    def test_powers_of_two_and_their_neighbours(self):
        for power in range(2, 130):
            self.tells(power, width_for, 2 ** power - 1)
            self.tells(power, width_for, 2 ** power)
            self.tells(power + 1, width_for, 2 ** power + 1)

    def test_great_numbers(self):
        self.tells(8, width_for, 200)
        self.tells(60, width_for, 10 ** 18)
        self.tells(130, width_for, 10 ** 39)

    def test_the_least_width_by_which_all_below_are_written(self):
        for number in range(1, 300):
            width = width_for(number)
            self.assertEqual(read_bits(written([number - 1], width), width), [number - 1])
            if width > 1:
                self.refused(NoBits, 0, written, [number - 1], width - 1)

    def test_beyond_the_numbers_nothing_is_refused(self):
        self.tells(1, width_for, 0)


if __name__ == "__main__":
    unittest.main()
