"""Points 12 and 13."""

import unittest

from lodge.errors import NoKey, NoKeys, NoTry, Twice
from lodge.tries import edges_of, fate, first_try, part_size, places_of
from tests.helper import (
    KINDS, LATE_PAIRS, AskCase, PeelCase, edges_by_the_document, first_salt, key_lists, never_taken,
    part_by_the_document, places_by_the_document, some_numbers, some_texts,
)

SALTS = [0, 1, 2, 3, 17, 299]
GREAT_SALTS = [300, 10 ** 9, 2 ** 61, 10 ** 20, 10 ** 39]
KEYS = [0, 1, 2, 40, 999999999999999999, "", "a", "z", "0", "1", "-", "_", " ", "a b", " " * 11, "a" * 11]


class PartSizeTest(AskCase):
    def test_worked_by_hand(self):
        for many, by_2, by_3 in [
            (1, 2, 2), (2, 3, 2), (3, 4, 3), (5, 6, 4), (7, 8, 4), (8, 10, 5), (9, 11, 5), (10, 12, 6), (15, 17, 8),
            (16, 19, 8), (99, 112, 42), (100, 113, 43), (199, 224, 83), (200, 226, 84),
        ]:
            self.tells(by_2, part_size, many, 2)
            self.tells(by_3, part_size, many, 3)

    def test_one_to_two_hundred_keys(self):
        for many in range(1, 201):
            for kind in KINDS:
                self.tells(part_by_the_document(many, kind), part_size, many, kind)

    def test_beyond_the_bounds_nothing_is_refused(self):
        for many in (0, 201, 202, 300, 10 ** 39):
            for kind in KINDS:
                self.tells(part_by_the_document(many, kind), part_size, many, kind)
        for kind in (0, 1, 4, 5):
            self.assertIs(self.asked(part_size, 8, kind).__class__, int)


class PlacesOfTest(AskCase):
    def test_worked_by_hand(self):
        self.tells((0, 2), places_of, 0, 0, 2, 2)
        self.tells((0, 3), places_of, 1, 0, 2, 2)
        self.tells((16, 113, 248), places_of, "ab", 1, 3, 100)

    def test_by_the_formula(self):
        for kind in KINDS:
            for salt in SALTS + GREAT_SALTS:
                for part in (1, 2, 3, 7, 84, 226, 1000, 10 ** 39):
                    for key in KEYS:
                        told = places_by_the_document(key, salt, kind, part)
                        self.tells(told, places_of, key, salt, kind, part)
                        self.look_places(told, kind, part)

    def look_places(self, places, kind, part):
        self.assertEqual(len(set(places)), kind)
        for number, place in enumerate(places):
            self.assertTrue(number * part <= place < (number + 1) * part)

    def test_no_key(self):
        for kind in KINDS:
            self.refuses_single_keys(lambda thing: places_of(thing, 0, kind, 5))

    def test_beyond_the_bounds_nothing_is_refused(self):
        for salt in (-1, -2):
            for kind in (1, 2, 3, 4, 5):
                for part in (1, 6):
                    told = places_by_the_document("ab", salt, kind, part)
                    self.tells(told, places_of, "ab", salt, kind, part)
        self.tells((), places_of, 1, 0, 0, 4)
        self.assertEqual(len(self.asked(places_of, 1, 0, 2, 0)), 2)


class EdgesOfTest(AskCase):
    def test_key_by_key(self):
        for keys in key_lists():
            for kind in KINDS:
                for salt in SALTS + GREAT_SALTS:
                    self.tells(edges_by_the_document(keys, salt, kind), edges_of, keys, salt, kind)

    def test_wrong_lists(self):
        for kind in KINDS:
            for salt in (0, 5):
                self.refuses_wrong_lists(edges_of, salt, kind)

    def test_a_told_list_is_the_askers_own(self):
        for keys in key_lists():
            self.tells_own_lists(edges_of, keys, 1, 3)
            self.keeps_answer(edges_of, list(keys), 1, 3)

    def test_beyond_the_bounds_nothing_is_refused(self):
        for salt, kind in [(-1, 2), (-1, 3), (0, 1), (0, 4)]:
            self.assertEqual([len(edge) for edge in self.asked(edges_of, [1, "a", 2], salt, kind)], [kind] * 3)


class FateTest(PeelCase):
    def test_by_both_kinds_and_several_salts(self):
        for keys in key_lists():
            for kind in KINDS:
                for salt in SALTS + [10 ** 39]:
                    edges = edges_by_the_document(keys, salt, kind)
                    left = self.walked(edges, self.asked(fate, keys, salt, kind))
                    if len(keys) < 100:
                        self.assertEqual(left, never_taken(edges))

    def test_some_succeed_and_some_leave_some(self):
        # Else the walks above would show little.
        for kind in KINDS:
            for keys in (some_numbers(200, 2), some_texts(200, 3), some_numbers(30, 4)):
                empty = [self.asked(fate, keys, salt, kind)[1] == [] for salt in range(20)]
                self.assertTrue(any(empty) and not all(empty))

    def test_two_keys_with_the_same_places_are_left(self):
        for kind in KINDS:
            for salt, other in LATE_PAIRS[kind].items():
                for lesser in range(salt):
                    self.tells(([], [0, 1]), fate, [0, other], lesser, kind)
                self.assertEqual(self.asked(fate, [0, other], salt, kind)[1], [])

    def test_one_key_is_always_taken(self):
        for kind in KINDS:
            for key in KEYS:
                for salt in SALTS:
                    order, left = self.asked(fate, [key], salt, kind)
                    self.assertEqual(left, [])
                    places = places_by_the_document(key, salt, kind, 2)
                    self.assertIn(order, [[(0, place)] for place in places])

    def test_wrong_lists(self):
        for kind in KINDS:
            for salt in (0, 5):
                self.refuses_wrong_lists(fate, salt, kind)

    def test_told_lists_are_the_askers_own(self):
        for keys in key_lists():
            for kind in KINDS:
                self.tells_own_lists(fate, keys, 0, kind)
                self.keeps_answer(fate, list(keys), 0, kind)

    def test_beyond_the_bounds_nothing_is_refused(self):
        for salt, kind in [(-1, 2), (-2, 3), (0, 1), (0, 4), (0, 0)]:
            keys = [1, "a", 2, 3]
            self.walked(edges_of(keys, salt, kind), self.asked(fate, keys, salt, kind))


class FirstTryTest(PeelCase):
    def test_its_salt_succeeds_and_each_lesser_one_leaves_some(self):
        for keys in key_lists():
            for kind in KINDS:
                salt = self.asked(first_try, keys, kind, 300)
                self.assertIs(salt.__class__, int)
                self.assertTrue(0 <= salt < 300)
                self.assertEqual(never_taken(edges_by_the_document(keys, salt, kind)), [])
                for lesser in range(salt):
                    edges = edges_by_the_document(keys, lesser, kind)
                    self.assertNotEqual(self.walked(edges, fate(keys, lesser, kind)), [])

    def test_by_the_document(self):
        for many in range(1, 40):
            for kind in KINDS:
                for seed in range(4):
                    keys = some_numbers(many, seed)
                    self.tells(first_salt(keys, kind, 300), first_try, keys, kind, 300)

    def test_none_below_most(self):
        for kind in KINDS:
            for salt, other in LATE_PAIRS[kind].items():
                self.assertEqual(first_salt([0, other], kind, 300), salt)
                for most in (1, 2, salt, salt + 1, salt + 2, 300):
                    if most > salt:
                        self.tells(salt, first_try, [0, other], kind, most)
                        self.tells(salt, first_try, [other, 0], kind, most)
                    else:
                        self.refused(NoTry, None, first_try, [0, other], kind, most)

    def test_none_below_most_of_longer_lists(self):
        seen = []
        for seed in range(6):
            for kind in KINDS:
                keys = some_texts(60, seed)
                salt = first_salt(keys, kind, 300)
                self.tells(salt, first_try, keys, kind, salt + 1)
                if salt > 0:
                    seen.append(kind)
                    self.refused(NoTry, None, first_try, keys, kind, salt)
        self.assertEqual(set(seen), set(KINDS))

    def test_wrong_lists(self):
        for kind in KINDS:
            for most in (1, 300):
                self.refuses_wrong_lists(first_try, kind, most)

    def test_a_wrong_list_goes_ahead_of_no_try(self):
        # By most 0 no try at all is left; a key that stands twice never frees itself.
        for kind in KINDS:
            self.refuses_wrong_lists(first_try, kind, 0)
            self.refused(NoKeys, None, first_try, [], kind, 1)
            self.refused(NoKey, 1, first_try, [0, -1, LATE_PAIRS[kind][1]], kind, 1)
            self.refused(Twice, 2, first_try, [0, LATE_PAIRS[kind][1], 0], kind, 1)

    def test_beyond_the_bounds_nothing_is_refused(self):
        for kind in KINDS:
            for most in (301, 1000, 10 ** 39):
                self.tells(3, first_try, [0, LATE_PAIRS[kind][3]], kind, most)
            for most in (0, -1):
                self.refused(NoTry, None, first_try, [0, 1], kind, most)
        self.assertIs(self.asked(first_try, [1, "a", 2], 4, 300).__class__, int)


if __name__ == "__main__":
    unittest.main()
