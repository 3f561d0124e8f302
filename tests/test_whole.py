"""Point 3, (a) to (f), over the whole program, and what one part tells handed in to another."""

import functools
import random
import unittest

from lodge.bits import read_bits
from lodge.buckets import Buckets
from lodge.errors import NoFit, NoTry
from lodge.fill import filled, summed
from lodge.halves import Halved
from lodge.houses import Ordered, Peeled
from lodge.retold import house_told, made_again
from lodge.tries import edges_of, fate, first_try
from lodge.values import Kept, Marked, mistaken
from tests.helper import (
    GREATEST, KINDS, HouseCase, PeelCase, Watched, buckets_by_the_document, edges_by_the_document, first_salt,
    halves_by_the_document, key_lists, mark_by_the_document, never_taken, part_by_the_document, salts_of_tree,
    some_keys, some_numbers, some_texts, some_values, strangers_to, sum_at_places,
)


@functools.cache
def lists():
    """Lists of one, few and many keys; numbers, texts and both; far apart and side by side."""
    found = key_lists()
    for many in (1, 6, 10, 25, 99, 150, 199, 200):
        found.append(some_keys(many, many))
        found.append(list(range(GREATEST - many + 1, GREATEST + 1)))
    for many in (13, 50, 200):
        found.append(some_numbers(many, 70))
        found.append(some_texts(many, 70))
    return found


def is_like(marked, key, width, kind):
    return sum_at_places(marked, key, width, kind) == mark_by_the_document(key, width)


class WholeTest(HouseCase, PeelCase):
    def tried(self, which, keys, *others):
        """The house, or None where by the document no salt below 300 succeeds, and it is refused so."""
        kind, most = others[-2:]
        if first_salt(keys, kind, most) is None:
            self.refused(NoTry, None, which, keys, *others)
            return None
        return self.asked(which, keys, *others)

    def test_a_rooms(self):
        for keys in lists():
            for kind in KINDS:
                for which in (Peeled, Ordered):
                    house = self.tried(which, keys, kind, 300)
                    if house is not None:
                        self.look_house(house, keys)
                        self.look_house(made_again(house_told(house)), keys)
                        if which is Ordered:
                            self.tells(list(range(len(keys))), house.rooms, keys)

    def test_a_and_c_buckets(self):
        houses = 0
        for keys in lists():
            for many_buckets in {1, (len(keys) + 1) // 2, len(keys)}:
                told = buckets_by_the_document(keys, many_buckets, 1000)
                if isinstance(told, int):
                    self.refused(NoFit, told, Buckets, keys, many_buckets, 1000)
                    continue
                houses = houses + 1
                house = self.asked(Buckets, keys, many_buckets, 1000)
                self.tells(told, house.numbers)
                self.look_house(house, keys)
        self.assertGreater(houses, len(lists()))

    def test_a_and_c_halves(self):
        houses = 0
        for keys in lists():
            for leaf in (1, 4, 6):
                tree = halves_by_the_document(keys, leaf, 1000)
                if isinstance(tree, int):
                    self.refused(NoFit, tree, Halved, keys, leaf, 1000)
                    continue
                houses = houses + 1
                house = self.asked(Halved, keys, leaf, 1000)
                self.tells(salts_of_tree(tree), house.numbers)
                self.look_house(house, keys)
        self.assertGreater(houses, 2 * len(lists()))

    def test_b_fates(self):
        fates = set()
        for keys in lists():
            for kind in KINDS:
                for salt in (0, 1, 2, 299):
                    edges = edges_by_the_document(keys, salt, kind)
                    left = self.walked(edges, self.asked(fate, keys, salt, kind))
                    self.assertEqual(left, never_taken(edges))
                    fates.add(left == [])
        self.assertEqual(fates, {True, False})

    def test_d_told_and_made_again(self):
        for keys in lists():
            asked = keys + strangers_to(keys)[::20]
            for kind in KINDS:
                values = some_values(len(keys), 6, 1)
                for house in (
                    self.tried(Peeled, keys, kind, 300), self.tried(Ordered, keys, kind, 300),
                    self.tried(Kept, keys, values, 6, kind, 300), self.tried(Marked, keys, 6, kind, 300),
                ):
                    if house is not None:
                        self.look_told(house, kind, asked)

    def look_told(self, house, kind, asked):
        told = self.asked(house_told, house)
        name, width, bits = told[0], told[4], told[5]
        self.assertEqual(len(bits), width * kind * part_by_the_document(house.many(), kind))
        again = self.asked(made_again, told)
        self.tells(told, house_told, again)
        self.tells(house.table(), again.table)
        self.tells(read_bits(bits, width), again.table)
        method = {"kept": "value", "marked": "knows"}.get(name, "room")
        for key in asked:
            self.tells(getattr(house, method)(key), getattr(again, method), key)
            self.tells(house.places(key), again.places, key)

    def test_e_values_and_marks(self):
        for keys in lists():
            for kind in KINDS:
                values = some_values(len(keys), 11, 2)
                kept = self.tried(Kept, keys, values, 11, kind, 300)
                marked = self.tried(Marked, keys, 4, kind, 300)
                if kept is None:
                    continue
                self.assertEqual([kept.value(key) for key in keys], values)
                for key in keys:
                    self.tells(True, marked.knows, key)
                known = [number for number in range(100) if number not in keys and is_like(marked, number, 4, kind)]
                self.tells(known, mistaken, marked, keys, 0, 99)
                for stranger in strangers_to(keys)[::20]:
                    self.tells(is_like(marked, stranger, 4, kind), marked.knows, stranger)

    def test_f_living(self):
        for keys in lists():
            for part in {1, len(keys), 300} if len(keys) < 50 else {len(keys)}:
                watched = Watched(self, part, 1, 10 ** 6)
                chosen = random.Random(part)
                for key in keys:
                    watched.put(key, chosen.randrange(10 ** 6))
                for key in keys[::10]:
                    watched.drop(key)
                for key in keys[::7]:
                    watched.put(key, chosen.randrange(10 ** 6))

    def test_what_is_told_may_be_handed_in(self):
        for keys in lists():
            for kind in KINDS:
                house = self.tried(Peeled, keys, kind, 300)
                if house is None:
                    continue
                edges = edges_of(keys, first_try(keys, kind, 300), kind)
                order = fate(keys, house.salt(), kind)[0]
                rooms = house.rooms(keys)
                table = filled(edges, len(house.table()), order, rooms, len(keys))
                self.tells(rooms, lambda: [summed(table, house.places(key), len(keys)) for key in keys])
                # Rooms are whole numbers, and so they may be keys themselves.
                self.look_house(Ordered(rooms, 3, 300), rooms)
                kept = Kept(keys, rooms, 8, kind, 300)
                self.assertEqual([kept.value(key) for key in keys], rooms)


if __name__ == "__main__":
    unittest.main()
