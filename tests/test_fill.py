"""Point 14."""

import random
import unittest

from lodge.fill import filled, summed
from lodge.peel import peeled
from lodge.tries import edges_of, fate, part_size
from tests.helper import KINDS, AskCase, some_numbers, some_texts

MODULI = [1, 2, 3, 4, 5, 7, 16, 97, 200, 256, 2 ** 32, 2 ** 64, 10 ** 18 + 9, 10 ** 39]
# Edges that can all be taken, and a size.
KNOWN = [
    ([(0,)], 1),
    ([(2,), (0,), (1,)], 3),
    ([(0, 1)], 2),
    ([(1, 0, 2)], 3),
    ([(3, 1, 2, 0)], 4),
    ([(3, 9, 2, 5)], 12),
    ([(0,), (0, 1), (0, 1, 2), (0, 1, 2, 3)], 4),
    ([(0, 1, 2, 3), (0, 1, 2), (0, 1), (0,)], 4),
    ([(place, place + 1) for place in range(50)], 51),
    ([(0, place) for place in range(1, 50)], 60),
    ([(0, 1, 2), (0, 1, 3), (0, 1, 4)], 5),
]


def any_order(edges, chosen):
    """Some order as point 11 lets by, or None where there is none of all edges."""
    there = list(range(len(edges)))
    order = []
    while there:
        ways = [
            (number, place) for number in there for place in edges[number]
            if [each for each in there if place in edges[each]] == [number]
        ]
        if not ways:
            return None
        order.append(chosen.choice(ways))
        there.remove(order[-1][0])
    return order


def some_edges(chosen):
    """Edges of one to four places that can all be taken, a size and an order."""
    order = None
    while order is None:
        size = chosen.randint(4, 30)
        edges = [
            tuple(chosen.sample(range(size), chosen.randint(1, 4))) for number in range(chosen.randint(0, size // 2))
        ]
        order = any_order(edges, chosen)
    return (edges, size, order)


class SummedTest(AskCase):
    def test_worked_by_hand(self):
        table = [3, 0, 5, 1, 4]
        for places, modulus, told in [
            ((), 7, 0), ((0,), 7, 3), ((2,), 5, 0), ((0, 2), 7, 1), ((0, 2), 8, 0), ((0, 2), 9, 8), ((4, 0, 2), 10, 2),
            ((0, 1, 2, 3), 100, 9), ((0, 1, 2, 3), 9, 0), ((0, 2, 4), 1, 0), ((0, 2), 2, 0), ((0, 4), 2, 1),
            ((2, 4), 10 ** 39, 9),
        ]:
            self.tells(told, summed, table, places, modulus)

    def test_great_numbers(self):
        table = [10 ** 39 - 1, 10 ** 39 - 2, 1]
        self.tells(10 ** 39 - 3, summed, table, (0, 1), 10 ** 39)
        self.tells(0, summed, table, (0, 2), 10 ** 39)

    def test_no_numbers(self):
        for modulus in MODULI:
            self.tells(0, summed, [], (), modulus)

    def test_beyond_the_bounds_nothing_is_refused(self):
        self.tells(3, summed, [3, 1], (0, 2), 7)
        self.tells(3, summed, [3, 1], (0, -1), 7)
        self.tells(4, summed, [3, 1, 8], (0, 1), 5)
        self.tells(2, summed, [9, -1], (0, 1), 3)
        self.assertIs(self.asked(summed, [3, 1], (0, 1), 0).__class__, int)


class FilledTest(AskCase):
    def look(self, edges, size, order, wanted, modulus):
        table = self.asked(filled, edges, size, order, wanted, modulus)
        self.assertIs(table.__class__, list)
        self.assertEqual(len(table), size)
        self.assertTrue(all(number.__class__ is int and 0 <= number < modulus for number in table))
        for edge, number in zip(edges, wanted):
            self.assertEqual(sum(table[place] for place in edge) % modulus, number)
            self.tells(number, summed, table, edge, modulus)

    def look_by_all_moduli(self, edges, size, order, chosen):
        for modulus in MODULI:
            wanted = [chosen.randrange(modulus) for edge in edges]
            self.look(edges, size, order, wanted, modulus)
            self.look(edges, size, order, [0] * len(edges), modulus)
            self.look(edges, size, order, [modulus - 1] * len(edges), modulus)

    def test_an_order_that_peeling_told(self):
        chosen = random.Random(14)
        for edges, size in KNOWN:
            order, left = peeled(edges, size)
            self.assertEqual(left, [])
            self.look_by_all_moduli(edges, size, order, chosen)

    def test_any_order(self):
        chosen = random.Random(15)
        for turn in range(150):
            edges, size, order = some_edges(chosen)
            self.look_by_all_moduli(edges, size, order, chosen)
            self.look_by_all_moduli(edges, size, peeled(edges, size)[0], chosen)

    def test_one_edge_of_one_place_has_its_wanted_number_there(self):
        for modulus in MODULI:
            for number in {0, modulus // 2, modulus - 1}:
                self.tells([number], filled, [(0,)], 1, [(0, 0)], [number], modulus)

    def test_worked_by_hand(self):
        # Each place is the own place of one edge, so there is just one such table.
        edges = [(0, 1, 2, 3), (0, 1, 2), (0, 1), (0,)]
        order = [(0, 3), (1, 2), (2, 1), (3, 0)]
        self.tells([1, 1, 1, 1], filled, edges, 4, order, [4, 3, 2, 1], 5)
        self.tells([4, 4, 4, 3], filled, edges, 4, order, [0, 2, 3, 4], 5)
        self.tells([0, 0, 0, 0], filled, edges, 4, order, [0, 0, 0, 0], 1)

    def test_the_fates_of_keys(self):
        chosen = random.Random(16)
        for keys in ([5], some_numbers(9, 3), some_texts(40, 4), some_numbers(200, 2), some_texts(200, 3)):
            for kind in KINDS:
                salt = 0
                while fate(keys, salt, kind)[1] != []:
                    salt = salt + 1
                size = kind * part_size(len(keys), kind)
                self.look_by_all_moduli(edges_of(keys, salt, kind), size, fate(keys, salt, kind)[0], chosen)

    def test_no_edges(self):
        for modulus in MODULI:
            self.tells([], filled, [], 0, [], [], modulus)
            for size in (1, 2, 100):
                self.look([], size, [], [], modulus)

    def test_two_thousand_edges(self):
        edges = [(place, place + 1) for place in range(1999)]
        wanted = [place % 5 for place in range(1999)]
        self.look(edges, 2000, peeled(edges, 2000)[0], wanted, 5)
        self.look(edges, 2000, [(place, place) for place in range(1999)], wanted, 5)
        self.look(edges, 2000, [(place, place + 1) for place in range(1998, -1, -1)], wanted, 5)

    def test_beyond_the_bounds_nothing_is_refused(self):
        edges = [(0, 1), (1, 2)]
        order = [(0, 0), (1, 2)]
        table = self.asked(filled, edges, 3, order, [7, -1], 5)
        self.assertEqual([summed(table, edge, 5) for edge in edges], [2, 4])
        self.look([(0, 1, 2, 3, 4, 5)], 6, [(0, 5)], [2], 3)
        self.assertEqual(len(self.asked(filled, edges, 2, order, [1, 2], 5)), 2)
        self.assertEqual(len(self.asked(filled, edges, 3, order, [0, 0], 0)), 3)

    def test_a_told_list_is_the_askers_own(self):
        for edges, size in KNOWN:
            order = peeled(edges, size)[0]
            wanted = [number % 7 for number in range(len(edges))]
            self.tells_own_lists(filled, edges, size, order, wanted, 7)
            self.keeps_answer(filled, list(edges), size, list(order), list(wanted), 7)


if __name__ == "__main__":
    unittest.main()
