"""Points 10 and 11."""

import itertools
import random
import unittest

from lodge.errors import NoEdges
from lodge.peel import look_edges, peeled
from tests.helper import AskCase, PeelCase, never_taken

NO_EDGES_OF_SIZE_6 = [
    (), (0, 1, 2, 3, 4), (0, 1, 2, 3, 4, 5), (0, 0), (1, 2, 1), (1, 2, 3, 1), (5, 5, 4), (4, 5, 5), (2, 2, 2, 2),
    (-1,), (0, -1), (-6, 0), (6,), (0, 6), (6, 0), (0, 1, 2, 6), (7, 1), (10 ** 39, 0), (-10 ** 39, 0),
]
# Edges, a size, and which of them are never taken.
KNOWN = [
    ([], 0, []),
    ([], 5, []),
    ([(0,)], 1, []),
    ([(3, 1, 2, 0)], 4, []),
    ([(0,), (1,), (2,)], 3, []),
    ([(0,), (0,)], 1, [0, 1]),
    ([(0,), (0,), (1,)], 2, [0, 1]),
    ([(0,), (0, 1)], 2, []),
    ([(0, 1), (0, 1)], 2, [0, 1]),
    ([(0, 1), (1, 0)], 2, [0, 1]),
    ([(0, 1), (0, 1), (0, 1)], 2, [0, 1, 2]),
    ([(0, 1), (0, 1), (1, 2)], 3, [0, 1]),
    ([(1, 2), (0, 1), (0, 1)], 3, [1, 2]),
    ([(0, 1, 2), (0, 1, 2)], 3, [0, 1]),
    ([(0, 1, 2), (0, 1, 3)], 4, []),
    # a chain, a star, a tree
    ([(0, 1), (1, 2), (2, 3), (3, 4)], 5, []),
    ([(0, 1), (0, 2), (0, 3), (0, 4)], 5, []),
    ([(0, 1), (0, 2), (1, 3), (1, 4), (2, 5), (2, 6)], 7, []),
    # a ring, one with a tail, one with a bridge to another, two apart and a tree
    ([(0, 1), (1, 2), (2, 0)], 3, [0, 1, 2]),
    ([(3, 4), (0, 1), (1, 2), (2, 0), (2, 3)], 5, [1, 2, 3]),
    ([(0, 1), (1, 2), (2, 0), (2, 3), (3, 4), (4, 5), (5, 3)], 6, [0, 1, 2, 3, 4, 5, 6]),
    ([(6, 7), (0, 1), (1, 2), (2, 0), (7, 8), (3, 4), (4, 5), (5, 3), (8, 9)], 10, [1, 2, 3, 5, 6, 7]),
    # by three places, two at each place; the fourth one frees nothing
    ([(0, 1, 2), (0, 1, 3), (0, 2, 3), (1, 2, 3)], 4, [0, 1, 2, 3]),
    ([(0, 1, 2), (0, 3, 4), (1, 3, 5), (2, 4, 5), (5, 6, 7)], 8, [0, 1, 2, 3]),
    ([(0, 1, 2, 3), (0, 1), (2, 3)], 4, [0, 1, 2]),
    ([(0, 1, 2, 3), (0, 1), (2,)], 4, []),
    ([(2, 10 ** 39 - 1), (2, 10 ** 38)], 10 ** 39, []),
]


def ring(many, start=0):
    return [(start + place, start + (place + 1) % many) for place in range(many)]


def chain(many, start=0):
    return [(start + place, start + place + 1) for place in range(many)]


class LookEdgesTest(AskCase):
    def test_no_edges(self):
        for size in (0, 1, 5, 10 ** 39):
            self.tells(True, look_edges, [], size)

    def test_edges_of_one_to_four_places(self):
        for many in (1, 2, 3, 4):
            for edge in itertools.permutations(range(5), many):
                self.tells(True, look_edges, [edge], 5)
        self.tells(True, look_edges, [(0,), (4, 0), (1, 2, 3), (4, 3, 2, 1), (0,)], 5)

    def test_the_least_and_the_greatest_place(self):
        for size in (1, 2, 3, 400, 10 ** 39):
            self.tells(True, look_edges, [(0,), (size - 1,)], size)
            self.refused(NoEdges, 1, look_edges, [(0,), (size,)], size)
            self.refused(NoEdges, 1, look_edges, [(0,), (-1,)], size)

    def test_of_size_0_no_edge_is_one(self):
        self.refused(NoEdges, 0, look_edges, [(0,)], 0)
        self.refused(NoEdges, 0, look_edges, [()], 0)

    def test_each_way_in_which_an_edge_is_none(self):
        for wrong in NO_EDGES_OF_SIZE_6:
            self.refused(NoEdges, 0, look_edges, [wrong], 6)

    def test_among_good_ones(self):
        good = [(0,), (1, 2), (3, 4, 5), (2, 1, 0, 5), (0,)]
        self.tells(True, look_edges, good, 6)
        for wrong in NO_EDGES_OF_SIZE_6:
            for number in range(len(good) + 1):
                self.refused(NoEdges, number, look_edges, good[:number] + [wrong] + good[number:], 6)

    def test_of_several_the_first(self):
        for first, second in itertools.permutations(NO_EDGES_OF_SIZE_6, 2):
            self.refused(NoEdges, 1, look_edges, [(0, 1), first, (2,), second, first], 6)

    def test_two_thousand_edges(self):
        self.tells(True, look_edges, chain(2000), 2001)
        self.refused(NoEdges, 1999, look_edges, chain(2000), 2000)

    def test_neither_true_nor_false_is_a_place(self):
        self.refused(NoEdges, 1, look_edges, [(0, 1), (2, True)], 6)
        self.refused(NoEdges, 0, look_edges, [(False,)], 6)


class PeeledTest(PeelCase):
    def walked_left(self, edges, size):
        return self.walked(edges, self.asked(peeled, edges, size))

    def test_known_ones(self):
        for edges, size, left in KNOWN:
            self.assertEqual(self.walked_left(edges, size), left, edges)

    def test_no_edges(self):
        for size in (0, 1, 100, 10 ** 39):
            self.tells(([], []), peeled, [], size)

    def test_one_edge_is_taken_at_one_of_its_places(self):
        for many in (1, 2, 3, 4):
            for edge in itertools.permutations(range(4), many):
                order, left = self.asked(peeled, [edge], 4)
                self.assertEqual(left, [])
                self.assertIn(order, [[(0, place)] for place in edge])

    def test_whatever_the_order_of_the_edges_left_is_the_same(self):
        edges = [(0, 1), (1, 2), (2, 0), (2, 3), (3, 4), (5,), (4, 6)]
        for order in itertools.permutations(range(len(edges))):
            left = self.walked_left([edges[number] for number in order], 7)
            self.assertEqual(sorted(order[number] for number in left), [0, 1, 2])

    def test_all_small_ones(self):
        kinds = [(0,), (1,), (0, 1), (1, 2), (2, 0), (0, 1, 2), (2, 3), (0, 1, 2, 3)]
        for many in range(5):
            for edges in itertools.product(kinds, repeat=many):
                self.assertEqual(self.walked_left(list(edges), 4), never_taken(edges), edges)

    def test_many_others(self):
        chosen = random.Random(11)
        for turn in range(600):
            size = chosen.randint(4, 40)
            lengths = chosen.choice([(1,), (2,), (3,), (4,), (2, 3), (1, 2, 3, 4)])
            edges = [
                tuple(chosen.sample(range(size), chosen.choice(lengths)))
                for number in range(chosen.randint(0, size + size // 2))
            ]
            self.assertEqual(self.walked_left(edges, size), never_taken(edges), edges)

    def test_rings_and_chains_of_many_lengths(self):
        for many in range(2, 30):
            self.assertEqual(self.walked_left(ring(many), many), list(range(many)))
            self.assertEqual(self.walked_left(chain(many), many + 1), [])
            both = chain(many) + ring(many, many + 1)
            self.assertEqual(self.walked_left(both, 2 * many + 1), list(range(many, 2 * many)))

    def test_two_thousand_edges(self):
        self.assertEqual(self.walked_left(chain(2000), 2001), [])
        self.assertEqual(self.walked_left(list(reversed(chain(2000))), 2001), [])
        order, left = self.asked(peeled, ring(2000), 2000)
        self.assertEqual((order, left), ([], list(range(2000))))
        order, left = self.asked(peeled, [(0, 1, 2, 3)] * 2000, 4)
        self.assertEqual((order, left), ([], list(range(2000))))

    def test_beyond_the_bounds_nothing_is_refused(self):
        for edges, size in [
            ([(0, 1, 2, 3, 4)], 5), ([(0, 1, 2, 3, 4, 5), (0, 1), (5,)], 6), ([(), (0,), ()], 1), ([(7, 8), (8, 9)], 4),
            ([(-1, 0), (0, 1)], 2), ([(0, 0), (0, 1, 1)], 2), ([(0,)], 0),
        ]:
            self.assertEqual(self.walked_left(edges, size), never_taken(edges), edges)

    def test_told_lists_are_the_askers_own(self):
        for edges, size, left in KNOWN:
            self.tells_own_lists(peeled, edges, size)

    def test_a_later_change_of_the_edges_shows_nowhere(self):
        for edges, size, left in KNOWN:
            self.keeps_answer(peeled, list(edges), size)


if __name__ == "__main__":
    unittest.main()
