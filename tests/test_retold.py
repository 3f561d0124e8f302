"""Points 22 and 23, with 9 for the width, and 3 (d)."""

import functools
import unittest

from lodge.bits import read_bits
from lodge.errors import NoKey
from lodge.houses import House, Ordered, Peeled
from lodge.retold import house_told, made_again
from lodge.values import Kept, Marked, mistaken
from tests.helper import (
    KINDS, LATE_PAIRS, AskCase, first_salt, key_lists, part_by_the_document, some_numbers, some_texts, some_values,
    strangers_to,
)

NAMES = ("peeled", "ordered", "kept", "marked")
WIDTHS = (1, 5, 8, 32)


def made(name, keys, kind, width):
    if name == "peeled":
        return Peeled(keys, kind, 300)
    if name == "ordered":
        return Ordered(keys, kind, 300)
    if name == "marked":
        return Marked(keys, width, kind, 300)
    return Kept(keys, some_values(len(keys), width, 1), width, kind, 300)


def told_width(name, many, kind, width):
    """Point 9 in other words: by a loop that doubles."""
    least = {"peeled": kind, "ordered": many}.get(name)
    if least is None:
        return width
    bits = 1
    while 2 ** bits < least:
        bits = bits + 1
    return bits


@functools.cache
def each_case():
    """Houses of each kind: a list of (house, name, keys, kind, told width)."""
    cases = []
    for keys in key_lists():
        for kind in KINDS:
            for name in NAMES:
                for width in (WIDTHS if name in ("kept", "marked") else (None,)):
                    house = made(name, keys, kind, width)
                    cases.append((house, name, keys, kind, told_width(name, len(keys), kind, width)))
    return cases


def all_told(house, name, asked):
    """All that a house of this name tells of itself and of these keys."""
    told = [house.many(), house.salt(), house.table()]
    for key in asked:
        told.append(house.places(key))
        if name in ("peeled", "ordered"):
            told.append(house.room(key))
        else:
            told.append(house.value(key) if name == "kept" else house.knows(key))
    if name == "peeled":
        told.append(house.used())
    if name in ("peeled", "ordered"):
        told.append([house.rooms(asked), house.rooms([]), house.rooms(asked[:1] * 3)])
    return repr(told)


def asks_of(house, name):
    """The methods that take one key."""
    if name in ("peeled", "ordered"):
        return [house.places, house.room]
    return [house.places, house.value if name == "kept" else house.knows]


class ToldTest(AskCase):
    def test_the_seven_parts(self):
        for house, name, keys, kind, width in each_case():
            told = self.asked(house_told, house)
            self.assertIs(told.__class__, tuple)
            self.assertEqual([part.__class__ for part in told], [str, int, int, int, int, str, str])
            used = house.used() if name == "peeled" else ""
            bits = "".join(f"{number:0{width}b}" for number in house.table())
            self.assertEqual(told, (name, kind, first_salt(keys, kind, 300), len(keys), width, bits, used))

    def test_as_many_bits_as_told_and_the_table_read_back(self):
        for house, name, keys, kind, width in each_case():
            bits = self.asked(house_told, house)[5]
            self.assertEqual(len(bits), width * kind * part_by_the_document(len(keys), kind))
            self.assertEqual(set(bits) - set("01"), set())
            self.tells(house.table(), read_bits, bits, width)

    def test_widths_by_the_number_of_keys(self):
        for many, width in [(1, 1), (2, 1), (3, 2), (4, 2), (5, 3), (8, 3), (9, 4), (128, 7), (129, 8), (200, 8)]:
            self.assertEqual(house_told(Ordered(some_numbers(many, 1), 3, 300))[4], width)
        for kind, width in [(2, 1), (3, 2)]:
            self.assertEqual(house_told(Peeled(some_numbers(9, 1), kind, 300))[4], width)

    def test_every_width(self):
        keys = some_texts(9, 1)
        for width in range(1, 33):
            for name in ("kept", "marked"):
                house = made(name, keys, 2, width)
                told = house_told(house)
                self.assertEqual(told[4], width)
                self.tells(house.table(), read_bits, told[5], width)
                again = made_again(told)
                self.assertEqual(all_told(again, name, keys), all_told(house, name, keys))
                self.tells(told, house_told, again)

    def test_late_salts(self):
        for kind in KINDS:
            for salt, other in LATE_PAIRS[kind].items():
                for name in NAMES:
                    house = made(name, [0, other], kind, 4)
                    told = house_told(house)
                    self.assertEqual(told[2], salt)
                    asked = [0, other] + strangers_to([0, other])[:50]
                    self.assertEqual(all_told(made_again(told), name, asked), all_told(house, name, asked))

    def test_telling_changes_nothing(self):
        for house, name, keys, kind, width in each_case():
            asked = keys[:20] + strangers_to(keys)[:20]
            before = all_told(house, name, asked)
            told = house_told(house)
            self.assertEqual(all_told(house, name, asked), before)
            self.tells(told, house_told, house)

    def test_nothing_is_told_of_what_is_no_such_house(self):
        self.tells(None, house_told, House(3))


class AgainTest(AskCase):
    def test_it_answers_alike(self):
        for house, name, keys, kind, width in each_case():
            again = self.asked(made_again, house_told(house))
            asked = keys + strangers_to(keys)[::3]
            self.assertEqual(all_told(again, name, asked), all_told(house, name, asked))

    def test_without_the_first_house(self):
        """The tuple alone is enough: by its parts, put together anew, the answers are told."""
        for house, name, keys, kind, width in each_case():
            asked = keys + strangers_to(keys)[:30]
            before = all_told(house, name, asked)
            parts = ["".join(list(part)) if isinstance(part, str) else part + 0 for part in house_told(house)]
            house = None
            self.assertEqual(all_told(made_again(tuple(parts)), name, asked), before)

    def test_the_same_is_told_of_it_and_of_what_is_made_of_that(self):
        for house, name, keys, kind, width in each_case():
            told = house_told(house)
            again = made_again(told)
            self.tells(told, house_told, again)
            third = made_again(house_told(again))
            self.tells(told, house_told, third)
            asked = keys + strangers_to(keys)[:30]
            self.assertEqual(all_told(third, name, asked), all_told(house, name, asked))

    def test_it_is_a_house_where_the_first_one_was(self):
        for house, name, keys, kind, width in each_case():
            self.assertEqual(isinstance(made_again(house_told(house)), House), isinstance(house, House))

    def test_rooms_and_values_of_the_keys(self):
        for house, name, keys, kind, width in each_case():
            again = made_again(house_told(house))
            if name == "peeled":
                self.assertEqual(sorted(again.rooms(keys)), list(range(len(keys))))
            if name == "ordered":
                self.tells(list(range(len(keys))), again.rooms, keys)
            if name == "marked":
                self.assertTrue(all(again.knows(key) is True for key in keys))

    def test_mistaken_of_it(self):
        for keys in (list(range(40)), ["a"], some_texts(30, 1)):
            for kind in KINDS:
                marked = Marked(keys, 3, kind, 300)
                told = mistaken(marked, keys, 0, 1999)
                self.assertGreater(len(told), 0)
                self.tells(told, mistaken, made_again(house_told(marked)), keys, 0, 1999)

    def test_refusals(self):
        for name in NAMES:
            for kind in KINDS:
                again = made_again(house_told(made(name, [1, "1", "a"], kind, 8)))
                before = all_told(again, name, [1, "1", "a", "b"])
                for ask in asks_of(again, name):
                    self.refuses_single_keys(ask)
                if name in ("peeled", "ordered"):
                    for keys, at in [([-1], 0), ([1, "A"], 1), ([1, 1, "a" * 12, -1], 2), ([1, True], 1)]:
                        self.refused(NoKey, at, again.rooms, keys)
                self.assertEqual(all_told(again, name, [1, "1", "a", "b"]), before)

    def test_told_lists_are_the_askers_own(self):
        for house, name, keys, kind, width in each_case():
            told = house_told(house)
            again = made_again(told)
            before = all_told(again, name, keys)
            for each in (house, again):
                self.tells_own_lists(each.table)
                if name in ("peeled", "ordered"):
                    self.tells_own_lists(each.rooms, keys)
            self.assertEqual(all_told(again, name, keys), before)
            self.assertEqual(all_told(house, name, keys), before)
            self.tells(told, house_told, house)
            self.tells(told, house_told, again)

    def test_two_of_one_tuple_are_apart(self):
        for name in NAMES:
            told = house_told(made(name, [1, 2, 3], 2, 8))
            first = made_again(told)
            second = made_again(told)
            before = all_told(second, name, [1, 2, 3, 4])
            first.table().clear()
            self.assertEqual(all_told(second, name, [1, 2, 3, 4]), before)
            self.assertEqual(all_told(first, name, [1, 2, 3, 4]), before)

    def test_beyond_the_bounds(self):
        keys = ["a", 1, 5]
        for kind in (1, 4):
            for name in NAMES:
                # By kind 1 three keys may have no try.
                some = keys if kind > 1 else keys[:1]
                house = made(name, some, kind, 8)
                told = house_told(house)
                again = made_again(told)
                self.assertEqual(all_told(again, name, keys), all_told(house, name, keys))
                self.tells(told, house_told, again)
        for width in (0, 33, 64, 70):
            for house, name in [(Kept(keys, [0] * 3, width, 2, 300), "kept"), (Marked(keys, width, 3, 300), "marked")]:
                told = house_told(house)
                self.assertEqual((told[4], len(told[5])), (width, width * len(house.table())))
                again = made_again(told)
                self.assertEqual(all_told(again, name, keys + [7, "x"]), all_told(house, name, keys + [7, "x"]))
                self.tells(told, house_told, again)

    def test_the_keys_are_not_kept(self):
        for keys in (some_numbers(50, 5), some_texts(50, 6)):
            for name in NAMES:
                self.keeps_no_key(made_again(house_told(made(name, keys, 2, 4))), keys)


if __name__ == "__main__":
    unittest.main()
