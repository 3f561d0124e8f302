"""Points 26 and 27, and 3 (a), (c)."""

import unittest

from lodge.errors import NoFit, NoKey, NoKeys, Twice
from lodge.halves import Halved
from tests.helper import (
    GREATEST, HouseCase, halves_by_the_document, key_lists, mixed_by_the_document, room_in_tree, salts_of_tree,
    some_numbers, some_texts, stamp_by_the_document, strangers_to,
)

LEAVES = (1, 2, 3, 4, 5, 6)
MOSTS = (1, 2, 5, 20, 100, 1000)

# Each list of keys with each leaf and several mosts, and what the document tells of it.
CALLS = [
    (keys, leaf, most, halves_by_the_document(keys, leaf, most))
    for keys in key_lists() for leaf in LEAVES for most in MOSTS
]


def each_house():
    """Houses with their keys, leaf and tree by the document; of alike houses one."""
    seen = []
    for keys, leaf, most, tree in CALLS:
        if isinstance(tree, tuple) and (keys, leaf) not in seen:
            seen.append((keys, leaf))
            yield (Halved(keys, leaf, most), keys, leaf, tree)


def all_told(house, asked):
    return repr((house.many(), house.numbers(), [house.room(key) for key in asked], house.rooms(asked)))


class HalvedTest(HouseCase):
    def test_numbers_or_no_fit_by_the_rule(self):
        fitting, at = 0, set()
        for keys, leaf, most, tree in CALLS:
            if isinstance(tree, tuple):
                fitting = fitting + 1
                self.tells(salts_of_tree(tree), self.asked(Halved, keys, leaf, most).numbers)
            else:
                at.add(tree)
                self.refused(NoFit, tree, Halved, keys, leaf, most)
        # Else one of the two would hardly have been looked at.
        self.assertGreater(fitting, 200)
        self.assertGreater(len(at), 10)

    def test_two_hundred_keys_have_houses_by_each_leaf(self):
        seen = {(len(keys), leaf) for house, keys, leaf, tree in each_house()}
        for leaf in LEAVES:
            self.assertIn((1, leaf), seen)
            self.assertIn((200, leaf), seen)

    def test_what_every_house_tells(self):
        for house, keys, leaf, tree in each_house():
            self.look_house(house, keys)

    def test_rooms_by_the_rule(self):
        for house, keys, leaf, tree in each_house():
            for key in keys + strangers_to(keys)[::3]:
                self.tells(room_in_tree(tree, stamp_by_the_document(key)), house.room, key)

    def test_each_salt_is_the_least_that_parts(self):
        """By a walk through the told salts: each part's salt does, and none lesser one does."""
        for house, keys, leaf, tree in each_house():
            salts = house.numbers()
            self.walk_part([stamp_by_the_document(key) for key in keys], leaf, salts)
            self.assertEqual(salts, [])

    def walk_part(self, stamps, leaf, salts):
        s, salt = len(stamps), salts.pop(0)
        for other in range(salt + 1):
            if s <= leaf:
                does = len({mixed_by_the_document(number, other, s) for number in stamps}) == s
            else:
                left = [number for number in stamps if mixed_by_the_document(number, other, 2) == 0]
                does = len(left) == (s + 1) // 2
            self.assertEqual(does, other == salt)
        if s > leaf:
            self.walk_part(left, leaf, salts)
            self.walk_part([number for number in stamps if number not in left], leaf, salts)

    def test_how_many_parts(self):
        def parts(s, leaf):
            return 1 if s <= leaf else 1 + parts((s + 1) // 2, leaf) + parts(s // 2, leaf)
        for house, keys, leaf, tree in each_house():
            numbers = house.numbers()
            self.assertEqual(len(numbers), parts(len(keys), leaf))
            self.assertTrue(all(number.__class__ is int for number in numbers))

    def test_one_key(self):
        for key in (0, GREATEST, "", "a", " " * 11, 77):
            for leaf in LEAVES:
                house = self.asked(Halved, [key], leaf, 1)
                self.tells([0], house.numbers)
                self.tells(0, house.room, key)
                self.tells([0, 0, 0], house.rooms, ["x", 5, key])

    def test_by_leaf_1_each_last_part_has_0(self):
        keys = some_numbers(8, 4)
        numbers = Halved(keys, 1, 1000).numbers()
        self.assertEqual(len(numbers), 15)
        self.assertEqual([numbers[turn] for turn in (3, 4, 6, 7, 10, 11, 13, 14)], [0] * 8)

    def test_most_just_enough(self):
        for keys in (some_numbers(6, 1), some_texts(30, 2), some_numbers(200, 3)):
            for leaf in LEAVES:
                numbers = salts_of_tree(halves_by_the_document(keys, leaf, 1000))
                enough = max(numbers) + 1
                self.assertGreater(enough, 1)
                self.tells(numbers, Halved(keys, leaf, enough).numbers)
                # Until the greatest one all are found by one fewer, too.
                self.refused(NoFit, numbers.index(enough - 1), Halved, keys, leaf, enough - 1)

    def test_the_order_of_the_keys_changes_nothing(self):
        keys = some_numbers(40, 3) + some_texts(40, 3)
        for leaf in LEAVES:
            house = Halved(keys, leaf, 1000)
            for others in (keys[::-1], keys[13:] + keys[:13]):
                other = Halved(others, leaf, 1000)
                self.tells(house.numbers(), other.numbers)
                self.tells(house.rooms(keys), other.rooms, keys)

    def test_wrong_lists_go_first(self):
        for leaf in LEAVES:
            for most in (1000, 1, 0):
                self.refuses_wrong_lists(Halved, leaf, most)
        # None of these is parted by one salt, but that is told last.
        keys = some_numbers(100, 1)
        at = halves_by_the_document(keys, 2, 1)
        self.assertIsInstance(at, int)
        self.refused(NoFit, at, Halved, keys, 2, 1)
        self.refused(NoKey, 100, Halved, keys + ["A"], 2, 1)
        self.refused(Twice, 100, Halved, keys + keys[:1], 2, 1)
        self.refused(NoKeys, None, Halved, keys + keys + [0], 2, 1)

    def test_no_key(self):
        for leaf in (1, 2, 6):
            house = Halved([1, "1", "a"], leaf, 1000)
            before = all_told(house, [1, "1", "a", "b"])
            self.refuses_keys_asked(house)
            self.assertEqual(all_told(house, [1, "1", "a", "b"]), before)

    def test_beyond_the_bounds_nothing_is_refused(self):
        for keys in (["a"], ["a", 1, 7], some_numbers(20, 2)):
            for leaf, most in [(7, 1000), (7, 3000), (8, 5000), (3, 1001)]:
                tree = halves_by_the_document(keys, leaf, most)
                house = self.asked(Halved, keys, leaf, most)
                self.tells(salts_of_tree(tree), house.numbers)
                self.look_house(house, keys)
            # One key can't be parted: it has 0 by leaf 0, too.
            house = self.asked(Halved, keys, 0, 1000)
            self.tells(Halved(keys, 1, 1000).numbers(), house.numbers)
            self.look_house(house, keys)
            # Without salts there is none that parts.
            self.refused(NoFit, 0, Halved, keys, 2, 0)
        self.refused(NoFit, 0, Halved, some_numbers(200, 1), 200, 1000)

    def test_told_lists_and_lists_handed_in(self):
        for house, keys, leaf, tree in each_house():
            self.stays_as_made(lambda handed: Halved(handed, leaf, 1000), keys, all_told)

    def test_the_keys_are_not_kept(self):
        for keys in (some_numbers(50, 5), some_texts(50, 6)):
            self.keeps_no_key(Halved(keys, 3, 1000), keys)


if __name__ == "__main__":
    unittest.main()
