"""What all tests share: asking a function, and looking at what it did besides answering."""

import collections
import copy
import random
import unittest

from lodge.errors import LodgeError, NoKey, NoKeys, Twice

P = 2305843009213693951
GREATEST = 999999999999999999
SIGNS = "abcdefghijklmnopqrstuvwxyz0123456789-_ "
KINDS = (2, 3)
# Lists of keys that point 6 refuses, how, and with which field at.
WRONG_LISTS = [
    ([], NoKeys, None),
    (list(range(201)), NoKeys, None),
    (["A"] * 201, NoKeys, None),
    ([0] * 201, NoKeys, None),
    ([-1], NoKey, 0),
    ([0, GREATEST + 1], NoKey, 1),
    (["a", "b", "a" * 12, "c"], NoKey, 2),
    ([5, "a", "A", -1, "."], NoKey, 2),
    ([1, 1, "a.b"], NoKey, 2),
    ([0, True], NoKey, 1),
    ([False], NoKey, 0),
    (list(range(199)) + ["A"], NoKey, 199),
    ([7, 7], Twice, 1),
    (["", 0, "0", ""], Twice, 3),
    ([1, 2, 2, 1], Twice, 2),
    (list(range(199)) + [0], Twice, 199),
]
# Things that are no keys, handed in alone.
NO_SINGLE_KEYS = [-1, GREATEST + 1, 10 ** 39, "a" * 12, "A", "a.b", "ab\n", "\t", True, False]
# By kind: the lists [0, other] of which the first try has this salt, since by each lesser one both keys
# have the same places.
LATE_PAIRS = {2: {0: 1, 1: 9, 2: 6, 3: 3, 4: 219, 5: 543}, 3: {0: 1, 1: 8, 2: 4, 3: 39, 4: 2, 9: 37}}


class AskCase(unittest.TestCase):
    def asked(self, call, *handed):
        """The answer of the call; what was handed in must be as before, answered or refused."""
        # repr, since 1 == True.
        before = repr(handed)
        try:
            return call(*handed)
        finally:
            self.assertEqual(repr(handed), before)

    def tells(self, answer, call, *handed):
        """The call answers so, kind by kind: 1 isn't True, a tuple isn't a list."""
        self.assertEqual(repr(self.asked(call, *handed)), repr(answer), (call, handed))

    def refused(self, error, at, call, *handed):
        """The call is refused with just this error, and this field at (None: it has no such field)."""
        try:
            answer = self.asked(call, *handed)
        except LodgeError as caught:
            self.assertIs(caught.__class__, error, handed)
            self.assertEqual(repr(getattr(caught, "at", None)), repr(at), handed)
        else:
            self.fail(f"{call} answered {answer!r} for {handed!r}")

    def refuses_wrong_lists(self, call, *others):
        """The call, asked of each wrong list of keys and the others, is refused as point 6 says."""
        for keys, error, at in WRONG_LISTS:
            self.refused(error, at, call, list(keys), *others)

    def refuses_single_keys(self, call):
        for thing in NO_SINGLE_KEYS:
            self.refused(NoKey, 0, call, thing)

    def tells_own_lists(self, call, *handed):
        """Whatever is done to an answer, neither what was handed in nor a later answer shows it."""
        first = self.asked(call, *handed)
        kept = copy.deepcopy(first)
        lists = lists_in(first)
        self.assertEqual(len({id(each) for each in lists}), len(lists), "a list is told twice")
        before = repr(handed)
        for each in lists:
            each.reverse()
            each.append("spoilt")
        self.assertEqual(repr(handed), before)
        second = self.asked(call, *handed)
        self.assertEqual(repr(second), repr(kept))
        for each in lists:
            each.clear()
        self.assertEqual(repr(second), repr(kept))

    def keeps_answer(self, call, *handed):
        """Whatever is done to what was handed in, an answer told before doesn't show it."""
        answer = call(*handed)
        before = repr(answer)
        for each in lists_in(handed):
            each.clear()
        self.assertEqual(repr(answer), before)


class PeelCase(AskCase):
    def walked(self, edges, answer):
        """What peeling told of the edges, its order walked edge by edge, its left looked at; left is told."""
        self.assertIs(answer.__class__, tuple)
        self.assertEqual([part.__class__ for part in answer], [list, list])
        order, left = answer
        self.walk_order(edges, order)
        self.look_left(edges, left)
        numbers = [number for number, place in order] + left
        self.assertEqual(sorted(numbers), list(range(len(edges))), edges)
        return left

    def walk_order(self, edges, order):
        there = list(range(len(edges)))
        for step in order:
            self.assertIs(step.__class__, tuple)
            number, place = step
            self.assertEqual((number.__class__, place.__class__), (int, int))
            self.assertIn(number, there)
            self.assertIn(place, edges[number])
            self.assertEqual([each for each in there if place in edges[each]], [number])
            there.remove(number)

    def look_left(self, edges, left):
        self.assertEqual(left, sorted(left))
        self.assertTrue(all(number.__class__ is int for number in left))
        for number in left:
            for place in edges[number]:
                at_place = [other for other in left if place in edges[other]]
                self.assertGreaterEqual(len(at_place), 2, (edges, number, place))


def lists_in(thing):
    """Every list in a thing of lists and tuples, the thing itself among them."""
    if not isinstance(thing, (list, tuple)):
        return []
    found = [thing] if isinstance(thing, list) else []
    for within in thing:
        found.extend(lists_in(within))
    return found


def numbers_and_texts_in(thing):
    """Every number and text that can be reached from a thing of lists, tuples, dicts and objects."""
    if isinstance(thing, (int, str)):
        return [thing]
    if isinstance(thing, dict):
        within = list(thing) + list(thing.values())
    elif isinstance(thing, (list, tuple, set)):
        within = list(thing)
    else:
        within = [vars(thing)]
    return [each for one in within for each in numbers_and_texts_in(one)]


def stamp_by_the_document(key):
    if isinstance(key, int):
        return 2 * key
    powers = [(SIGNS.index(sign) + 1) * 40 ** place for place, sign in enumerate(reversed(key))]
    return 2 * sum(powers) + 1


def mixed_by_the_document(number, salt, size):
    a = 1 + (1103515245 * salt + 12345) % (P - 1)
    b = (69069 * salt * salt + 7 * salt) % P
    first = (a * number + b) % P
    return (first + first // 2147483648) % size


def part_by_the_document(many, kind):
    return {2: many + many // 8 + 1, 3: (41 * many) // 100 + 2}[kind]


def places_by_the_document(key, salt, kind, part):
    number = stamp_by_the_document(key)
    return tuple(j * part + mixed_by_the_document(number, 4 * salt + j, part) for j in range(kind))


def edges_by_the_document(keys, salt, kind):
    part = part_by_the_document(len(keys), kind)
    return [places_by_the_document(key, salt, kind, part) for key in keys]


def first_salt(keys, kind, most):
    """The first try's salt by the document, or None where there is none."""
    for salt in range(most):
        if never_taken(edges_by_the_document(keys, salt, kind)) == []:
            return salt
    return None


def some_numbers(many, seed):
    return random.Random(seed).sample(range(GREATEST + 1), many)


def some_texts(many, seed):
    chosen = random.Random(seed)
    texts = {}
    while len(texts) < many:
        texts["".join(chosen.choices(SIGNS, k=chosen.randint(1, 11)))] = True
    return list(texts)


def key_lists():
    """Lists of one key, of few and of 200: numbers, texts and both."""
    lists = [[0], [GREATEST], [""], [" " * 11], ["a"], [0, ""], [1, "1"], ["b", "a"], [2, 1, 0], ["", 0, " ", GREATEST]]
    for many in (2, 3, 4, 5, 7, 8, 9, 16, 31, 64):
        lists.append(some_numbers(many, many))
        lists.append(some_texts(many, many))
    lists.append(some_numbers(20, 1) + some_texts(20, 1))
    lists.append(list(range(200)))
    lists.append(some_numbers(200, 2))
    lists.append(some_texts(200, 3))
    lists.append([f"key {place}" for place in range(199, -1, -1)])
    return lists


def strangers_to(keys):
    some = list(range(300)) + some_numbers(100, 7) + some_texts(100, 8) + ["", 0, GREATEST, " " * 11, "a" * 11]
    return [key for key in some if key not in keys]


def never_taken(edges):
    """By the words of point 11: round by round all those are taken that stand alone somewhere."""
    left = list(range(len(edges)))
    before = None
    while left != before:
        before = left
        standing = collections.Counter(place for number in left for place in set(edges[number]))
        left = [number for number in left if all(standing[place] > 1 for place in edges[number])]
    return left
