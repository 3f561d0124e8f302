"""Points 19, 20 and 21, and 3 (e)."""

import random
import unittest

from lodge.errors import NoKey, NoKeys, NoRange, NoTry, NoValue, Twice
from lodge.houses import House
from lodge.values import Kept, Marked, mistaken
from tests.helper import (
    GREATEST, KINDS, LATE_PAIRS, WRONG_LISTS, AskCase, first_salt, key_lists, mark_by_the_document,
    part_by_the_document, places_by_the_document, some_numbers, some_texts, some_values, strangers_to, sum_at_places,
)


def all_told(table, asked):
    told = [table.many(), table.salt(), table.table()]
    for key in asked:
        told.append((table.places(key), table.value(key) if isinstance(table, Kept) else table.knows(key)))
    return repr(told)


class TableCase(AskCase):
    def look_table(self, table, keys, width, kind):
        """What both classes have: many, salt, table, places."""
        self.assertFalse(isinstance(table, House))
        self.tells(len(keys), table.many)
        self.tells(first_salt(keys, kind, 300), table.salt)
        numbers = self.asked(table.table)
        part = part_by_the_document(len(keys), kind)
        self.assertIs(numbers.__class__, list)
        self.assertEqual(len(numbers), kind * part)
        self.assertTrue(all(number.__class__ is int and 0 <= number < 2 ** width for number in numbers))
        for key in keys + strangers_to(keys)[:60]:
            self.tells(places_by_the_document(key, table.salt(), kind, part), table.places, key)
        self.tells_own_lists(table.table)


class KeptTest(TableCase):
    def test_each_keys_value(self):
        for keys in key_lists():
            for kind in KINDS:
                for width in (1, 2, 8, 31, 32):
                    values = some_values(len(keys), width, len(keys))
                    kept = self.asked(Kept, keys, values, width, kind, 300)
                    for key, value in zip(keys, values):
                        self.tells(value, kept.value, key)

    def test_each_width(self):
        for width in range(1, 33):
            for keys in (["a"], some_numbers(3, 1), some_texts(25, 2)):
                for kind in KINDS:
                    values = some_values(len(keys), width, 5)
                    values[-1] = 2 ** width - 1
                    kept = self.asked(Kept, keys, values, width, kind, 300)
                    self.assertEqual([kept.value(key) for key in keys], values)
                    self.refused(NoValue, 0, Kept, keys, [2 ** width] + values[1:], width, kind, 300)

    def test_all_the_least_and_all_the_greatest(self):
        for keys in key_lists():
            for value in (0, 255):
                kept = self.asked(Kept, keys, [value] * len(keys), 8, 3, 300)
                self.assertEqual([kept.value(key) for key in keys], [value] * len(keys))

    def test_salt_table_places_many(self):
        for keys in key_lists():
            for kind in KINDS:
                for width in (1, 7, 32):
                    kept = Kept(keys, some_values(len(keys), width, 1), width, kind, 300)
                    self.look_table(kept, keys, width, kind)

    def test_strangers_by_the_sum(self):
        for keys in key_lists():
            for kind in KINDS:
                kept = Kept(keys, some_values(len(keys), 9, 3), 9, kind, 300)
                for stranger in strangers_to(keys)[:150]:
                    self.tells(sum_at_places(kept, stranger, 9, kind), kept.value, stranger)

    def test_wrong_values(self):
        keys = [1, "1", "a", 7]
        for values, at in [
            ([], 0), ([0], 1), ([0, 1, 2], 3), ([0, 1, 2, 3, 0], 4), ([0] * 9, 4), ([0] * 2000, 4),
            ([-1, 0, 0, 0], 0), ([0, 4, 0, 0], 1), ([0, 0, 3, -5], 3), ([0, 0, 10 ** 39, 0], 2),
            ([-10 ** 39, 0, 0, 0], 0),
            # of several the least place
            ([0, -1, 4, -1], 1), ([0, 4, -1, 0], 1), ([4], 0), ([0, 4], 1), ([3, 3], 2), ([0, 0, 4], 2),
            ([0, 0, 0, 4, 0], 3), ([0, 0, 0, 0, -1], 4), ([0, 0, 0, 0, 0, -1], 4), ([-1] * 9, 0),
        ]:
            for kind in KINDS:
                self.refused(NoValue, at, Kept, keys, values, 2, kind, 300)

    def test_neither_true_nor_false_is_a_value(self):
        self.refused(NoValue, 1, Kept, [1, 2], [0, True], 2, 2, 300)
        self.refused(NoValue, 0, Kept, [1, 2], [False, 0], 2, 2, 300)

    def test_wrong_lists_of_keys_go_first(self):
        for keys, error, at in WRONG_LISTS:
            for values in ([0] * len(keys), [], [-1] * len(keys), [0] * (len(keys) + 1)):
                for most in (300, 1, 0):
                    self.refused(error, at, Kept, list(keys), values, 4, 2, most)

    def test_then_wrong_values_then_no_try(self):
        for kind in KINDS:
            for salt, other in LATE_PAIRS[kind].items():
                if salt > 0:
                    self.refused(NoTry, None, Kept, [0, other], [1, 2], 2, kind, salt)
                    self.refused(NoValue, 1, Kept, [0, other], [1, 4], 2, kind, salt)
                    self.refused(NoValue, 1, Kept, [0, other], [1], 2, kind, salt)
                    self.refused(NoValue, 2, Kept, [0, other], [1, 2, 3], 2, kind, salt)
                    self.refused(Twice, 2, Kept, [0, other, 0], [1, 4, 1], 2, kind, salt)
                kept = self.asked(Kept, [0, other], [1, 2], 2, kind, salt + 1)
                self.assertEqual((kept.salt(), kept.value(0), kept.value(other)), (salt, 1, 2))

    def test_no_key_handed_in_alone(self):
        kept = Kept([1, "1"], [3, 4], 8, 2, 300)
        self.refuses_single_keys(kept.value)
        self.refuses_single_keys(kept.places)

    def test_beyond_the_bounds_nothing_is_refused(self):
        for width in (33, 40, 64, 100):
            values = [2 ** width - 1, 0, 2 ** (width - 1)]
            kept = self.asked(Kept, [1, "a", 2], values, width, 3, 301)
            self.assertEqual([kept.value(key) for key in (1, "a", 2)], values)
        self.tells(0, Kept([1], [0], 0, 2, 300).value, 1)
        self.refused(NoValue, 0, Kept, [1], [1], 0, 2, 300)
        self.tells(5, Kept(["a"], [5], 3, 4, 300).value, "a")

    def test_what_is_handed_in_is_as_before_and_a_later_change_of_it_shows_nowhere(self):
        for keys in key_lists():
            handed, values = list(keys), some_values(len(keys), 5, 2)
            kept = self.asked(Kept, handed, values, 5, 2, 300)
            asked = keys + strangers_to(keys)[:50]
            before = all_told(kept, asked)
            handed.clear()
            values.clear()
            self.assertEqual(all_told(kept, asked), before)
            self.tells_own_lists(kept.table)
            self.assertEqual(all_told(kept, asked), before)


class MarkedTest(TableCase):
    def test_each_key_is_known(self):
        for keys in key_lists():
            for kind in KINDS:
                for width in (1, 2, 8, 31, 32):
                    marked = self.asked(Marked, keys, width, kind, 300)
                    for key in keys:
                        self.tells(True, marked.knows, key)

    def test_each_width(self):
        for width in range(1, 33):
            for keys in (["a"], some_numbers(3, 1), some_texts(25, 2)):
                for kind in KINDS:
                    marked = self.asked(Marked, keys, width, kind, 300)
                    for key in keys:
                        self.tells(True, marked.knows, key)
                        self.assertEqual(sum_at_places(marked, key, width, kind), mark_by_the_document(key, width))

    def test_salt_table_places_many(self):
        for keys in key_lists():
            for kind in KINDS:
                for width in (1, 7, 32):
                    self.look_table(Marked(keys, width, kind, 300), keys, width, kind)

    def test_strangers_by_the_sum(self):
        seen = []
        for keys in key_lists():
            for kind in KINDS:
                for width in (1, 4, 32):
                    marked = Marked(keys, width, kind, 300)
                    for stranger in strangers_to(keys)[:150]:
                        told = sum_at_places(marked, stranger, width, kind) == mark_by_the_document(stranger, width)
                        seen.append((width, told))
                        self.tells(told, marked.knows, stranger)
        for known in (True, False):
            self.assertIn((1, known), seen)
            self.assertIn((4, known), seen)

    def test_wrong_lists(self):
        for kind in KINDS:
            for most in (300, 1, 0):
                self.refuses_wrong_lists(Marked, 8, kind, most)

    def test_no_try_goes_last(self):
        for kind in KINDS:
            for salt, other in LATE_PAIRS[kind].items():
                if salt > 0:
                    self.refused(NoTry, None, Marked, [0, other], 8, kind, salt)
                    self.refused(Twice, 2, Marked, [0, other, 0], 8, kind, salt)
                    self.refused(NoKey, 2, Marked, [0, other, -1], 8, kind, salt)
                self.tells(salt, Marked([0, other], 8, kind, salt + 1).salt)
            self.refused(NoKeys, None, Marked, [], 8, kind, 1)

    def test_no_key_handed_in_alone(self):
        marked = Marked([1, "1"], 8, 2, 300)
        self.refuses_single_keys(marked.knows)
        self.refuses_single_keys(marked.places)

    def test_beyond_the_bounds_nothing_is_refused(self):
        for width in (0, 33, 40, 64):
            for kind in (1, 2, 3, 4):
                marked = self.asked(Marked, ["a"], width, kind, 301)
                self.tells(True, marked.knows, "a")

    def test_what_is_handed_in_is_as_before_and_a_later_change_of_it_shows_nowhere(self):
        for keys in key_lists():
            handed = list(keys)
            marked = self.asked(Marked, handed, 5, 2, 300)
            asked = keys + strangers_to(keys)[:50]
            before = all_told(marked, asked)
            handed.clear()
            self.assertEqual(all_told(marked, asked), before)
            self.tells_own_lists(marked.table)
            self.assertEqual(all_told(marked, asked), before)


class MistakenTest(AskCase):
    def walked(self, marked, keys, low, high):
        """By a walk through the range, with the table's own words for what it knows."""
        return [number for number in range(low, high + 1) if number not in keys and marked.knows(number)]

    def look(self, marked, keys, low, high):
        told = self.walked(marked, keys, low, high)
        self.tells(told, mistaken, marked, keys, low, high)
        return told

    def test_against_a_walk(self):
        for keys in ([5], ["a"], list(range(0, 100, 7)), some_texts(30, 1), some_numbers(200, 1), [1, "2", 3, "4"]):
            for kind in KINDS:
                for width in (1, 2, 6):
                    marked = Marked(keys, width, kind, 300)
                    for low, high in [(0, 0), (0, 50), (5, 5), (1, 300), (0, 1999), (17, 2016)]:
                        self.look(marked, keys, low, high)
                        self.look(marked, keys, low + 10 ** 17, high + 10 ** 17)

    def test_some_are_mistaken_and_some_are_not(self):
        marked = Marked(list(range(40)), 3, 3, 300)
        told = self.look(marked, list(range(40)), 0, 1999)
        self.assertTrue(100 < len(told) < 1000)
        self.assertEqual(told, sorted(set(told)))
        self.assertTrue(all(number >= 40 for number in told))

    def test_only_by_the_marks(self):
        keys = list(range(40))
        marked = Marked(keys, 3, 2, 300)
        told = [
            number for number in range(2000)
            if number >= 40 and sum_at_places(marked, number, 3, 2) == mark_by_the_document(number, 3)
        ]
        self.tells(told, mistaken, marked, keys, 0, 1999)

    def test_keys_of_the_range_are_left_out(self):
        keys = list(range(10, 60))
        marked = Marked(keys, 1, 2, 300)
        self.tells([], mistaken, marked, keys, 10, 59)
        self.tells([], mistaken, marked, keys, 30, 30)
        self.look(marked, keys, 9, 60)

    def test_a_text_is_no_number(self):
        # "5" is a key, and 5 a stranger all the same.
        keys = [str(number) for number in range(50)]
        marked = Marked(keys, 1, 2, 300)
        self.assertGreater(len(self.look(marked, keys, 0, 49)), 0)

    def test_keys_in_any_order(self):
        keys = list(range(0, 400, 2))
        marked = Marked(keys, 2, 3, 300)
        told = self.look(marked, keys, 0, 1000)
        others = list(keys)
        random.Random(3).shuffle(others)
        for order in (keys[::-1], others, keys[50:] + keys[:50]):
            self.tells(told, mistaken, marked, order, 0, 1000)

    def test_high_below_low(self):
        marked = Marked([1, 2], 1, 2, 300)
        for low, high in [(1, 0), (5, 4), (2000, 0), (GREATEST, 0), (GREATEST, GREATEST - 1)]:
            self.tells([], mistaken, marked, [1, 2], low, high)

    def test_how_far_high_may_be_above_low(self):
        keys = [1, "a", 3000]
        marked = Marked(keys, 1, 2, 300)
        for low in (0, 1, 1500, 10 ** 12, GREATEST - 1999):
            self.assertGreater(len(self.look(marked, keys, low, low + 1999)), 0)
        for low in (0, 1, 1500, 10 ** 12, GREATEST - 2000):
            for above in (2000, 2001, 5000):
                self.refused(NoRange, None, mistaken, marked, keys, low, low + above)
        self.refused(NoRange, None, mistaken, marked, keys, 0, GREATEST)

    def test_the_least_and_the_greatest(self):
        keys = [0, GREATEST]
        for kind in KINDS:
            marked = Marked(keys, 1, kind, 300)
            self.look(marked, keys, 0, 100)
            self.look(marked, keys, GREATEST - 100, GREATEST)
            self.tells([], mistaken, marked, keys, 0, 0)
            self.tells([], mistaken, marked, keys, GREATEST, GREATEST)
        marked = Marked(["a"], 1, 2, 300)
        for number in (0, 1, GREATEST - 1, GREATEST):
            self.tells([number] if marked.knows(number) else [], mistaken, marked, ["a"], number, number)

    def test_beyond_the_numbers_nothing_is_refused_and_nothing_known(self):
        keys = [7, "a"]
        marked = Marked(keys, 1, 2, 300)
        self.tells(self.walked(marked, keys, 0, 50), mistaken, marked, keys, -5, 50)
        low = GREATEST - 50
        self.tells(self.walked(marked, keys, low, GREATEST), mistaken, marked, keys, low, GREATEST + 9)
        self.tells([], mistaken, marked, keys, -9, -1)
        self.tells([], mistaken, marked, keys, GREATEST + 1, GREATEST + 100)
        self.refused(NoRange, None, mistaken, marked, keys, -1, 1999)
        self.refused(NoRange, None, mistaken, marked, keys, GREATEST - 1990, GREATEST + 10)

    def test_no_key(self):
        marked = Marked([7, "a"], 8, 2, 300)
        for low, high in [(0, 10), (10, 0), (0, 5000)]:
            self.refused(NoKey, 1, mistaken, marked, [7, "A"], low, high)
            self.refused(NoKey, 0, mistaken, marked, [-1, "A"], low, high)

    def test_what_is_handed_in_is_as_before_and_told_lists_are_the_askers_own(self):
        keys = some_numbers(20, 1) + list(range(20))
        marked = Marked(keys, 2, 3, 300)
        before = all_told(marked, list(range(100)))
        self.tells_own_lists(mistaken, marked, keys, 0, 500)
        self.tells_own_lists(mistaken, marked, keys, 5, 4)
        self.keeps_answer(mistaken, marked, list(keys), 0, 500)
        self.assertEqual(all_told(marked, list(range(100))), before)


if __name__ == "__main__":
    unittest.main()
