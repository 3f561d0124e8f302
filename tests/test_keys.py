"""Points 4, 5 and 6."""

import unittest

from lodge.errors import NoKey, NoKeys, Twice
from lodge.keys import look_keys, mark, mixed, stamp
from tests.helper import GREATEST, P, SIGNS, AskCase, mixed_by_the_document, stamp_by_the_document

# Every other sign that a text that is handed in may have.
OTHER_SIGNS = [chr(code) for code in range(32, 127) if chr(code) not in SIGNS] + ["\t", "\n"]
NO_NUMBERS = [-1, -2, -GREATEST, -10 ** 39, GREATEST + 1, GREATEST + 2, P, 2 * P, 10 ** 19, 10 ** 39]
NO_TEXTS = [
    "a" * 12, " " * 12, "-" * 13, "0" * 40, "a" * 2000, "A", "Z", ".", "\t", "\n", "aB", "a.b", "ab\n",
    "\nab", "a\tb", "abcdefghijK", "~", "!", "{", "`", "/", ":", "A" * 12,
]
NO_KEYS = NO_NUMBERS + NO_TEXTS
KEYS = [0, 1, 2, 39, 40, GREATEST, "", "a", "z", "0", "1", "9", "-", "_", " ", "a b", "zz", " " * 11, "a" * 11]


class StampTest(AskCase):
    def test_numbers(self):
        for key, told in [(0, 0), (1, 2), (2, 4), (40, 80), (123456, 246912), (GREATEST - 1, 1999999999999999996),
                          (GREATEST, 1999999999999999998)]:
            self.tells(told, stamp, key)

    def test_texts(self):
        for key, told in [("", 1), ("a", 3), ("b", 5), ("z", 53), ("0", 55), ("9", 73), ("-", 75), ("_", 77),
                          (" ", 79), ("aa", 83), ("ab", 85), ("ba", 163), ("a ", 159), (" a", 3123),
                          ("abc", 3367), (" " * 11, 838860799999999999), ("a" * 11, 21509251282051283)]:
            self.tells(told, stamp, key)

    def test_each_sign_has_its_number(self):
        self.assertEqual(len(SIGNS), 39)
        for place, sign in enumerate(SIGNS):
            self.tells(2 * (place + 1) + 1, stamp, sign)

    def test_each_sign_at_each_place(self):
        for length in range(1, 12):
            for place in range(length):
                for sign in SIGNS:
                    key = "m" * place + sign + "m" * (length - place - 1)
                    self.tells(stamp_by_the_document(key), stamp, key)

    def test_texts_of_eleven_signs(self):
        for key in ["abcdefghijk", "lmnopqrstuv", "wxyz0123456", "789-_ a-_ b", "           ", "a         a"]:
            self.tells(stamp_by_the_document(key), stamp, key)

    def test_a_number_and_its_figures_are_unlike(self):
        for number in (0, 1, 10, 99999999999):
            self.assertNotEqual(stamp(number), stamp(str(number)))

    def test_unlike_keys_have_unlike_stamps_below_p(self):
        pairs = [first + second for first in SIGNS for second in SIGNS]
        keys = pairs + list(SIGNS) + [sign * 11 for sign in SIGNS] + ["", GREATEST, GREATEST - 1]
        keys = keys + ["a" * many for many in range(2, 11)][1:] + list(range(4000))
        stamps = [stamp(key) for key in keys]
        self.assertEqual(len(set(keys)), len(keys))
        self.assertEqual(len(set(stamps)), len(keys))
        self.assertTrue(all(0 <= each < P for each in stamps))

    def test_refused_at_0(self):
        for thing in NO_KEYS:
            self.refused(NoKey, 0, stamp, thing)

    def test_another_sign_at_any_place_is_refused(self):
        for sign in OTHER_SIGNS:
            for length in (1, 2, 5, 11):
                for place in range(length):
                    self.refused(NoKey, 0, stamp, "a" * place + sign + "a" * (length - place - 1))

    def test_neither_true_nor_false_is_a_key(self):
        self.refused(NoKey, 0, stamp, True)
        self.refused(NoKey, 0, stamp, False)


class MixedTest(AskCase):
    def test_worked_by_hand(self):
        for number, salt, size, told in [
            (0, 0, 1, 0), (0, 0, 10, 0), (1, 0, 1000, 346), (5, 1, 7, 6), (2, 3, 4294967296, 2326770511),
            (1, 3, 256, 204), (85, 3, 65536, 40610), (2 * GREATEST, 0, 200, 10), (2 * GREATEST, 799, 97, 19),
            (P - 1, 1, P, 2305843009183977259), (P - 1, 1000000, 999999999999, 484793704514),
            (123456789, 4000000000000000000000, 1000003, 551268),
            (7, 10 ** 40 - 1, 10 ** 40 - 1, 2196303313418395166),
        ]:
            self.tells(told, mixed, number, salt, size)

    def test_by_the_formula(self):
        numbers = [0, 1, 2, 3, 1000, 2147483647, 2147483648, 2 ** 60, 2 * GREATEST, P - 2, P - 1]
        salts = [0, 1, 2, 3, 4, 800, 1203, 10 ** 9, P - 2, P - 1, P, 10 ** 20, 10 ** 39]
        sizes = [1, 2, 3, 7, 200, 226, 256, 2 ** 31, 2 ** 32, 2 ** 61, P, 10 ** 39]
        for number in numbers:
            for salt in salts:
                for size in sizes:
                    told = mixed_by_the_document(number, salt, size)
                    self.tells(told, mixed, number, salt, size)
                    self.assertTrue(0 <= told < size)

    def test_beyond_the_bounds_nothing_is_refused(self):
        for number in (-1, P, P + 1, 3 * P):
            for salt in (-1, 0, 5):
                self.tells(mixed_by_the_document(number, salt, 100), mixed, number, salt, 100)
        self.tells(0, mixed, 5, 1, 0)


class MarkTest(AskCase):
    def test_worked_by_hand(self):
        for key, width, told in [(1, 32, 2326770511), ("", 8, 204), ("ab", 16, 40610), (" " * 11, 32, 3083210157)]:
            self.tells(told, mark, key, width)

    def test_each_width(self):
        for key in KEYS:
            for width in range(1, 33):
                told = mixed_by_the_document(stamp_by_the_document(key), 3, 2 ** width)
                self.tells(told, mark, key, width)
                self.assertTrue(0 <= told < 2 ** width)

    def test_beyond_the_widths_nothing_is_refused(self):
        for width in (0, 33, 34, 40, 64):
            for key in KEYS:
                told = mixed_by_the_document(stamp_by_the_document(key), 3, 2 ** width)
                self.tells(told, mark, key, width)

    def test_refused_at_0(self):
        for thing in NO_KEYS:
            self.refused(NoKey, 0, mark, thing, 8)


class LookKeysTest(AskCase):
    def test_how_many(self):
        for many in (1, 2, 3, 100, 199, 200):
            self.tells(many, look_keys, list(range(many)))
            self.tells(many, look_keys, [f"k{place}" for place in range(many)])
        self.tells(len(KEYS), look_keys, list(KEYS))

    def test_a_list_of_any_one_key(self):
        for key in KEYS:
            self.tells(1, look_keys, [key])

    def test_a_number_and_its_figures_are_unlike(self):
        self.tells(2, look_keys, [1, "1"])
        self.tells(2, look_keys, ["1", 1])
        self.tells(4, look_keys, ["0", 0, "", " "])

    def test_none_or_too_many(self):
        self.refused(NoKeys, None, look_keys, [])
        for many in (201, 202, 300, 2000):
            self.refused(NoKeys, None, look_keys, list(range(many)))

    def test_no_key_at_its_place(self):
        for thing in NO_KEYS:
            for place in (0, 1, 7, 19):
                keys = list(range(19))
                keys.insert(place, thing)
                self.refused(NoKey, place, look_keys, keys)
            self.refused(NoKey, 0, look_keys, [thing])

    def test_no_key_at_the_last_of_two_hundred(self):
        self.refused(NoKey, 199, look_keys, list(range(199)) + ["A"])

    def test_of_several_that_are_no_keys_the_first(self):
        self.refused(NoKey, 1, look_keys, ["a", -1, "A", 10 ** 18])
        self.refused(NoKey, 2, look_keys, [5, "a", "A", -1, -1])
        self.refused(NoKey, 0, look_keys, [10 ** 18, -1])

    def test_neither_true_nor_false_is_a_key(self):
        self.refused(NoKey, 1, look_keys, [1, True])
        self.refused(NoKey, 0, look_keys, [False, 0])

    def test_twice_at_the_later_place(self):
        for key in KEYS:
            self.refused(Twice, 1, look_keys, [key, key])
            self.refused(Twice, 3, look_keys, ["first", key, "other", key, "last"])
        self.refused(Twice, 199, look_keys, list(range(199)) + [0])
        self.refused(Twice, 199, look_keys, list(range(199)) + [198])

    def test_of_several_the_first_that_stands_ahead_already(self):
        self.refused(Twice, 2, look_keys, [1, 2, 2, 1])
        self.refused(Twice, 2, look_keys, ["a", "b", "a", "b"])
        self.refused(Twice, 1, look_keys, [3, 3, 3])
        self.refused(Twice, 4, look_keys, [1, "1", 2, "2", "1", 1])

    def test_how_many_goes_ahead_of_no_key_and_twice(self):
        self.refused(NoKeys, None, look_keys, ["A"] + list(range(200)))
        self.refused(NoKeys, None, look_keys, [0] * 201)
        self.refused(NoKeys, None, look_keys, [-1] * 201)

    def test_no_key_goes_ahead_of_twice(self):
        self.refused(NoKey, 2, look_keys, [1, 1, -1])
        self.refused(NoKey, 199, look_keys, [0] * 199 + ["A"])
        self.refused(NoKey, 0, look_keys, [-1, -1])


if __name__ == "__main__":
    unittest.main()
