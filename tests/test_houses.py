"""Points 15 to 18, and 3 (a)."""

import unittest

from lodge.errors import NoKey, NoKeys, NoTry, Twice
from lodge.houses import House, Ordered, Peeled
from tests.helper import (
    KINDS, LATE_PAIRS, AskCase, first_salt, key_lists, part_by_the_document, places_by_the_document, some_numbers,
    some_texts, strangers_to,
)

CLASSES = (Peeled, Ordered)


def each_house(*classes):
    """Houses of each class by both kinds: (house, keys, kind)."""
    for keys in key_lists():
        for kind in KINDS:
            for which in classes:
                yield (which(keys, kind, 300), keys, kind)


def all_told(house, keys):
    """All that a house tells of itself and of these keys."""
    told = [house.many(), house.salt(), house.table(), house.rooms(keys)]
    for key in keys:
        told.append((house.room(key), house.places(key)))
    if isinstance(house, Peeled):
        told.append(house.used())
    return repr(told)


class BothKindsTest(AskCase):
    def test_many(self):
        for house, keys, kind in each_house(*CLASSES):
            self.assertIsInstance(house, House)
            self.tells(len(keys), house.many)

    def test_salt_is_that_of_the_first_try(self):
        for house, keys, kind in each_house(*CLASSES):
            self.tells(first_salt(keys, kind, 300), house.salt)

    def test_the_tables_length_and_bounds(self):
        for house, keys, kind in each_house(*CLASSES):
            table = self.asked(house.table)
            bound = kind if isinstance(house, Peeled) else len(keys)
            self.assertIs(table.__class__, list)
            self.assertEqual(len(table), kind * part_by_the_document(len(keys), kind))
            self.assertTrue(all(number.__class__ is int and 0 <= number < bound for number in table))

    def test_places(self):
        for house, keys, kind in each_house(*CLASSES):
            part = part_by_the_document(len(keys), kind)
            for key in keys + strangers_to(keys):
                self.tells(places_by_the_document(key, house.salt(), kind, part), house.places, key)

    def test_each_room_is_one_keys(self):
        for house, keys, kind in each_house(*CLASSES):
            rooms = [self.asked(house.room, key) for key in keys]
            self.assertTrue(all(room.__class__ is int for room in rooms))
            self.assertEqual(sorted(rooms), list(range(len(keys))))

    def test_rooms_of_strangers_are_rooms(self):
        for house, keys, kind in each_house(*CLASSES):
            for stranger in strangers_to(keys):
                room = self.asked(house.room, stranger)
                self.assertIs(room.__class__, int)
                self.assertTrue(0 <= room < len(keys))

    def test_rooms_of_lists(self):
        for house, keys, kind in each_house(*CLASSES):
            strangers = strangers_to(keys)
            for asked in (keys, [], strangers, keys + strangers + keys, [keys[0]] * 3, strangers[:1]):
                self.tells([house.room(key) for key in asked], house.rooms, asked)

    def test_rooms_of_two_thousand(self):
        for which in CLASSES:
            house = which([5, "five"], 2, 300)
            asked = list(range(2000))
            self.tells([house.room(key) for key in asked], house.rooms, asked)

    def test_wrong_lists(self):
        for which in CLASSES:
            for kind in KINDS:
                self.refuses_wrong_lists(which, kind, 300)

    def test_no_try(self):
        for which in CLASSES:
            for kind in KINDS:
                for salt, other in LATE_PAIRS[kind].items():
                    if salt > 0:
                        self.refused(NoTry, None, which, [0, other], kind, salt)
                        self.refused(NoTry, None, which, [0, other], kind, 1)
                    self.tells(salt, which([0, other], kind, salt + 1).salt)

    def test_a_wrong_list_goes_ahead_of_no_try(self):
        for which in CLASSES:
            for kind in KINDS:
                other = LATE_PAIRS[kind][1]
                self.refuses_wrong_lists(which, kind, 0)
                self.refused(NoKeys, None, which, [], kind, 1)
                self.refused(NoKey, 1, which, [0, "A", other], kind, 1)
                self.refused(Twice, 2, which, [0, other, 0], kind, 1)

    def test_no_key_handed_in_alone(self):
        for which in CLASSES:
            for kind in KINDS:
                house = which([1, "1", "a"], kind, 300)
                self.refuses_single_keys(house.room)
                self.refuses_single_keys(house.places)

    def test_no_key_in_a_list_for_rooms(self):
        for which in CLASSES:
            house = which([1, "1", "a"], 2, 300)
            before = all_told(house, [1, "1", "a", "b"])
            for keys, at in [
                ([-1], 0), ([1, "A"], 1), ([1, 1, "a" * 12], 2), ([5, "x", 10 ** 18, -1], 2), ([1, True], 1),
                ([7] * 300 + ["a.b"], 300),
            ]:
                self.refused(NoKey, at, house.rooms, keys)
            self.assertEqual(all_told(house, [1, "1", "a", "b"]), before)

    def test_beyond_the_bounds_nothing_is_refused(self):
        for which in CLASSES:
            for keys, kind, most in [(["a", 1], 2, 301), (["a", 1], 3, 1000), (["a", 1, 5], 4, 300), (["a"], 1, 1)]:
                house = self.asked(which, keys, kind, most)
                self.assertEqual(sorted(house.rooms(keys)), list(range(len(keys))))
            self.refused(NoTry, None, which, ["a", 1], 2, 0)

    def test_asked_twice_it_answers_alike(self):
        for house, keys, kind in each_house(*CLASSES):
            asked = keys + strangers_to(keys)[:50]
            self.assertEqual(all_told(house, asked), all_told(house, asked))

    def test_told_lists_are_the_askers_own(self):
        for house, keys, kind in each_house(*CLASSES):
            asked = keys + strangers_to(keys)[:50]
            before = all_told(house, asked)
            self.tells_own_lists(house.table)
            self.tells_own_lists(house.rooms, keys)
            self.tells_own_lists(house.rooms, [])
            self.assertEqual(all_told(house, asked), before)

    def test_what_is_handed_in_is_as_before_and_a_later_change_of_it_shows_nowhere(self):
        for which in CLASSES:
            for keys in key_lists():
                for kind in KINDS:
                    handed = list(keys)
                    house = self.asked(which, handed, kind, 300)
                    before = all_told(house, keys)
                    handed.reverse()
                    self.assertEqual(all_told(house, keys), before)
                    handed.clear()
                    self.assertEqual(all_told(house, keys), before)
            self.keeps_answer(house.rooms, [1, "a"])

    def test_the_keys_are_not_kept(self):
        for which in CLASSES:
            for keys in (some_numbers(50, 5), some_texts(50, 6)):
                self.keeps_no_key(which(keys, 2, 300), keys)

    def test_two_houses_are_apart(self):
        for which in CLASSES:
            first = which([1, 2, 3], 2, 300)
            before = all_told(first, [1, 2, 3, 4])
            which(["a", "b"], 3, 300).rooms(["a"])
            self.assertEqual(all_told(first, [1, 2, 3, 4]), before)


class PeeledTest(AskCase):
    def choice(self, house, key, kind):
        places = places_by_the_document(key, house.salt(), kind, part_by_the_document(house.many(), kind))
        table = house.table()
        return places[sum(table[place] for place in places) % kind]

    def test_used_is_a_row_of_the_keys_choices(self):
        for house, keys, kind in each_house(Peeled):
            choices = [self.choice(house, key, kind) for key in keys]
            self.assertEqual(len(set(choices)), len(keys))
            size = kind * part_by_the_document(len(keys), kind)
            self.tells("".join("1" if place in choices else "0" for place in range(size)), house.used)

    def test_a_room_is_the_ones_before_the_choice(self):
        for house, keys, kind in each_house(Peeled):
            used = house.used()
            for key in keys:
                self.tells(used[:self.choice(house, key, kind)].count("1"), house.room, key)

    def test_strangers_by_the_same_rule_but_none_has_many(self):
        beyond = 0
        for house, keys, kind in each_house(Peeled):
            used = house.used()
            for stranger in strangers_to(keys):
                ones = used[:self.choice(house, stranger, kind)].count("1")
                beyond = beyond + (ones == len(keys))
                self.tells(min(ones, len(keys) - 1), house.room, stranger)
        # Else the edge would not have been looked at.
        self.assertGreater(beyond, 0)


class OrderedTest(AskCase):
    def test_a_room_is_the_place_in_the_list(self):
        for house, keys, kind in each_house(Ordered):
            self.tells(list(range(len(keys))), house.rooms, keys)
            for place, key in enumerate(keys):
                self.tells(place, house.room, key)

    def test_the_list_in_another_order(self):
        keys = some_numbers(30, 9) + some_texts(30, 9)
        for kind in KINDS:
            for others in (keys, keys[::-1], keys[7:] + keys[:7]):
                self.tells(list(range(60)), Ordered(others, kind, 300).rooms, others)

    def test_any_keys_room_is_the_sum_at_its_places(self):
        for house, keys, kind in each_house(Ordered):
            table = house.table()
            part = part_by_the_document(len(keys), kind)
            for key in keys + strangers_to(keys):
                places = places_by_the_document(key, house.salt(), kind, part)
                self.tells(sum(table[place] for place in places) % len(keys), house.room, key)


if __name__ == "__main__":
    unittest.main()
