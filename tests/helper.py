"""What all tests share: asking a function, and looking at what it did besides answering."""

import collections
import copy
import itertools
import random
import unittest

from lodge.errors import LodgeError, NoKey, NoKeys, NoSuch, NoValue, Stuck, Twice
from lodge.houses import House
from lodge.living import Living

P = 2305843009213693951
GREATEST = 999999999999999999
SIGNS = "abcdefghijklmnopqrstuvwxyz0123456789-_ "
KINDS = (2, 3)
# Lists of keys that point 6 refuses, how, and with which field at.
WRONG_LISTS = [
    ([], NoKeys, None),
    (list(range(201)), NoKeys, None),
    (["A"] * 201, NoKeys, None),
    ([0] * 201, NoKeys, None),
    ([-1], NoKey, 0),
    ([0, GREATEST + 1], NoKey, 1),
    (["a", "b", "a" * 12, "c"], NoKey, 2),
    ([5, "a", "A", -1, "."], NoKey, 2),
    ([1, 1, "a.b"], NoKey, 2),
    ([0, True], NoKey, 1),
    ([False], NoKey, 0),
    (list(range(199)) + ["A"], NoKey, 199),
    ([7, 7], Twice, 1),
    (["", 0, "0", ""], Twice, 3),
    ([1, 2, 2, 1], Twice, 2),
    (list(range(199)) + [0], Twice, 199),
]
# Things that are no keys, handed in alone.
NO_SINGLE_KEYS = [-1, GREATEST + 1, 10 ** 39, "a" * 12, "A", "a.b", "ab\n", "\t", True, False]
# By kind: the lists [0, other] of which the first try has this salt, since by each lesser one both keys
# have the same places.
LATE_PAIRS = {2: {0: 1, 1: 9, 2: 6, 3: 3, 4: 219, 5: 543}, 3: {0: 1, 1: 8, 2: 4, 3: 39, 4: 2, 9: 37}}


class AskCase(unittest.TestCase):
    def asked(self, call, *handed):
        """The answer of the call; what was handed in must be as before, answered or refused."""
        # repr, since 1 == True.
        before = repr(handed)
        try:
            return call(*handed)
        finally:
            self.assertEqual(repr(handed), before)

    def tells(self, answer, call, *handed):
        """The call answers so, kind by kind: 1 isn't True, a tuple isn't a list."""
        self.assertEqual(repr(self.asked(call, *handed)), repr(answer), (call, handed))

    def refused(self, error, at, call, *handed):
        """The call is refused with just this error, and this field at (None: it has no such field)."""
        try:
            answer = self.asked(call, *handed)
        except LodgeError as caught:
            self.assertIs(caught.__class__, error, handed)
            self.assertEqual(repr(getattr(caught, "at", None)), repr(at), handed)
        else:
            self.fail(f"{call} answered {answer!r} for {handed!r}")

    def refuses_wrong_lists(self, call, *others):
        """The call, asked of each wrong list of keys and the others, is refused as point 6 says."""
        for keys, error, at in WRONG_LISTS:
            self.refused(error, at, call, list(keys), *others)

    def refuses_single_keys(self, call):
        for thing in NO_SINGLE_KEYS:
            self.refused(NoKey, 0, call, thing)

    def tells_own_lists(self, call, *handed):
        """Whatever is done to an answer, neither what was handed in nor a later answer shows it."""
        first = self.asked(call, *handed)
        kept = copy.deepcopy(first)
        lists = lists_in(first)
        self.assertEqual(len({id(each) for each in lists}), len(lists), "a list is told twice")
        before = repr(handed)
        for each in lists:
            each.reverse()
            each.append("spoilt")
        self.assertEqual(repr(handed), before)
        second = self.asked(call, *handed)
        self.assertEqual(repr(second), repr(kept))
        for each in lists:
            each.clear()
        self.assertEqual(repr(second), repr(kept))

    def keeps_answer(self, call, *handed):
        """Whatever is done to what was handed in, an answer told before doesn't show it."""
        answer = call(*handed)
        before = repr(answer)
        for each in lists_in(handed):
            each.clear()
        self.assertEqual(repr(answer), before)

    def keeps_no_key(self, thing, keys):
        """Neither a key nor its stamp can be reached from the thing; short ones may stand there for something else."""
        found = numbers_and_texts_in(vars(thing))
        long_ones = [key for key in keys if len(str(key)) > 3]
        self.assertTrue(long_ones)
        for key in long_ones:
            self.assertNotIn(key, found)
            self.assertNotIn(stamp_by_the_document(key), found)


class HouseCase(AskCase):
    def look_house(self, house, keys):
        """What point 15 says of every house, but for what room tells of a stranger by its kind's own rule."""
        self.assertIsInstance(house, House)
        self.tells(len(keys), house.many)
        rooms = [self.asked(house.room, key) for key in keys]
        self.assertTrue(all(room.__class__ is int for room in rooms))
        self.assertEqual(sorted(rooms), list(range(len(keys))))
        strangers = strangers_to(keys)[::5]
        for stranger in strangers:
            room = self.asked(house.room, stranger)
            self.assertIs(room.__class__, int)
            self.assertTrue(0 <= room < len(keys))
        for asked in (keys, [], strangers, keys + strangers + keys, [keys[0]] * 3, strangers[:1]):
            self.tells([house.room(key) for key in asked], house.rooms, asked)
        self.tells_own_lists(house.rooms, keys)

    def stays_as_made(self, make, keys, all_told):
        """Lists that were handed in or told and then changed change nothing of what the house tells."""
        handed = list(keys)
        house = self.asked(make, handed)
        asked = keys + strangers_to(keys)[:20]
        before = all_told(house, asked)
        handed.reverse()
        self.assertEqual(all_told(house, asked), before)
        handed.clear()
        self.tells_own_lists(house.numbers)
        self.assertEqual(all_told(house, asked), before)

    def refuses_keys_asked(self, house):
        """NoKey of room and rooms, with the field at."""
        self.refuses_single_keys(house.room)
        for keys, at in [
            ([-1], 0), ([1, "A"], 1), ([1, 1, "a" * 12], 2), ([5, "x", 10 ** 18, -1], 2), ([1, True], 1),
            ([7] * 300 + ["a.b"], 300),
        ]:
            self.refused(NoKey, at, house.rooms, keys)


class PeelCase(AskCase):
    def walked(self, edges, answer):
        """What peeling told of the edges, its order walked edge by edge, its left looked at; left is told."""
        self.assertIs(answer.__class__, tuple)
        self.assertEqual([part.__class__ for part in answer], [list, list])
        order, left = answer
        self.walk_order(edges, order)
        self.look_left(edges, left)
        numbers = [number for number, place in order] + left
        self.assertEqual(sorted(numbers), list(range(len(edges))), edges)
        return left

    def walk_order(self, edges, order):
        there = list(range(len(edges)))
        for step in order:
            self.assertIs(step.__class__, tuple)
            number, place = step
            self.assertEqual((number.__class__, place.__class__), (int, int))
            self.assertIn(number, there)
            self.assertIn(place, edges[number])
            self.assertEqual([each for each in there if place in edges[each]], [number])
            there.remove(number)

    def look_left(self, edges, left):
        self.assertEqual(left, sorted(left))
        self.assertTrue(all(number.__class__ is int for number in left))
        for number in left:
            for place in edges[number]:
                at_place = [other for other in left if place in edges[other]]
                self.assertGreaterEqual(len(at_place), 2, (edges, number, place))


def lists_in(thing):
    """Every list in a thing of lists and tuples, the thing itself among them."""
    if not isinstance(thing, (list, tuple)):
        return []
    found = [thing] if isinstance(thing, list) else []
    for within in thing:
        found.extend(lists_in(within))
    return found


def numbers_and_texts_in(thing):
    """Every number and text that can be reached from a thing of lists, tuples, dicts and objects."""
    if isinstance(thing, (int, str)):
        return [thing]
    if isinstance(thing, dict):
        within = list(thing) + list(thing.values())
    elif isinstance(thing, (list, tuple, set)):
        within = list(thing)
    else:
        within = [vars(thing)]
    return [each for one in within for each in numbers_and_texts_in(one)]


def stamp_by_the_document(key):
    if isinstance(key, int):
        return 2 * key
    powers = [(SIGNS.index(sign) + 1) * 40 ** place for place, sign in enumerate(reversed(key))]
    return 2 * sum(powers) + 1


def mixed_by_the_document(number, salt, size):
    a = 1 + (1103515245 * salt + 12345) % (P - 1)
    b = (69069 * salt * salt + 7 * salt) % P
    first = (a * number + b) % P
    return (first + first // 2147483648) % size


def part_by_the_document(many, kind):
    return {2: many + many // 8 + 1, 3: (41 * many) // 100 + 2}[kind]


def places_by_the_document(key, salt, kind, part):
    number = stamp_by_the_document(key)
    return tuple(j * part + mixed_by_the_document(number, 4 * salt + j, part) for j in range(kind))


def edges_by_the_document(keys, salt, kind):
    part = part_by_the_document(len(keys), kind)
    return [places_by_the_document(key, salt, kind, part) for key in keys]


def first_salt(keys, kind, most):
    """The first try's salt by the document, or None where there is none."""
    for salt in range(most):
        if never_taken(edges_by_the_document(keys, salt, kind)) == []:
            return salt
    return None


def mark_by_the_document(key, width):
    return mixed_by_the_document(stamp_by_the_document(key), 3, 2 ** width)


def sum_at_places(table, key, width, kind):
    """By the document, of what the table tells of itself."""
    numbers = table.table()
    part = part_by_the_document(table.many(), kind)
    places = places_by_the_document(key, table.salt(), kind, part)
    return sum(numbers[place] for place in places) % 2 ** width


def buckets_by_the_document(keys, many_buckets, most):
    """Point 24: the list of the buckets' numbers; or the bucket, a number, for which there is none."""
    within = [[] for bucket in range(many_buckets)]
    for key in keys:
        number = stamp_by_the_document(key)
        within[mixed_by_the_document(number, 0, many_buckets)].append(number)
    told, taken = [0] * many_buckets, []
    for many in range(len(keys), 0, -1):
        for bucket in range(many_buckets):
            if len(within[bucket]) == many:
                for d in range(most):
                    rooms = [mixed_by_the_document(number, d + 1, len(keys)) for number in within[bucket]]
                    if len(set(rooms)) == many and not set(rooms) & set(taken):
                        break
                else:
                    return bucket
                told[bucket] = d
                taken.extend(rooms)
    return told


class NoSalt(Exception):
    pass


def tree_by_the_document(stamps, leaf, most):
    """Point 26: a part as (salt, s, left half, right half), the halves None in a last one; NoSalt where it has none."""
    s = len(stamps)
    for salt in range(most):
        if s <= leaf and len({mixed_by_the_document(number, salt, s) for number in stamps}) == s:
            return (salt, s, None, None)
        sides = [mixed_by_the_document(number, salt, 2) for number in stamps]
        if s > leaf and sides.count(0) == (s + 1) // 2:
            break
    else:
        raise NoSalt(0)
    left = [number for number, side in zip(stamps, sides) if side == 0]
    right = [number for number, side in zip(stamps, sides) if side == 1]
    before = 1
    try:
        left_part = tree_by_the_document(left, leaf, most)
        before = before + len(salts_of_tree(left_part))
        return (salt, s, left_part, tree_by_the_document(right, leaf, most))
    except NoSalt as lacking:
        raise NoSalt(before + lacking.args[0])


def salts_of_tree(tree):
    salt, s, left, right = tree
    return [salt] + ([] if left is None else salts_of_tree(left) + salts_of_tree(right))


def room_in_tree(tree, number):
    salt, s, left, right = tree
    if left is None:
        return mixed_by_the_document(number, salt, s)
    if mixed_by_the_document(number, salt, 2) == 0:
        return room_in_tree(left, number)
    return left[1] + room_in_tree(right, number)


def halves_by_the_document(keys, leaf, most):
    """The tree of all keys; or how many parts had theirs before one had none, a number."""
    try:
        return tree_by_the_document([stamp_by_the_document(key) for key in keys], leaf, most)
    except NoSalt as lacking:
        return lacking.args[0]


def some_numbers(many, seed):
    return random.Random(seed).sample(range(GREATEST + 1), many)


def some_texts(many, seed):
    chosen = random.Random(seed)
    texts = {}
    while len(texts) < many:
        texts["".join(chosen.choices(SIGNS, k=chosen.randint(1, 11)))] = True
    return list(texts)


def some_keys(many, seed):
    """Numbers and texts, mixed."""
    keys = some_numbers(many - many // 2, seed) + some_texts(many // 2, seed)
    random.Random(seed).shuffle(keys)
    return keys


def some_values(many, width, seed):
    chosen = random.Random(seed)
    return [chosen.randrange(2 ** width) for place in range(many)]


def key_lists():
    """Lists of one key, of few and of 200: numbers, texts and both."""
    lists = [[0], [GREATEST], [""], [" " * 11], ["a"], [0, ""], [1, "1"], ["b", "a"], [2, 1, 0], ["", 0, " ", GREATEST]]
    for many in (2, 3, 4, 5, 7, 8, 9, 16, 31, 64):
        lists.append(some_numbers(many, many))
        lists.append(some_texts(many, many))
    lists.append(some_numbers(20, 1) + some_texts(20, 1))
    lists.append(list(range(200)))
    lists.append(some_numbers(200, 2))
    lists.append(some_texts(200, 3))
    lists.append([f"key {place}" for place in range(199, -1, -1)])
    return lists


def strangers_to(keys):
    some = list(range(300)) + some_numbers(100, 7) + some_texts(100, 8) + ["", 0, GREATEST, " " * 11, "a" * 11]
    return [key for key in some if key not in keys]


def never_taken(edges):
    """By the words of point 11: round by round all those are taken that stand alone somewhere."""
    left = list(range(len(edges)))
    before = None
    while left != before:
        before = left
        standing = collections.Counter(place for number in left for place in set(edges[number]))
        left = [number for number in left if all(standing[place] > 1 for place in edges[number])]
    return left


def differing(one, other):
    return sum(1 for a, b in zip(one, other, strict=True) if a != b)


def fewest_changes(table, modulus, wanted):
    """Through all tables: how few numbers a right one differs in; None where none is right."""
    fewest = None
    for other in itertools.product(range(modulus), repeat=len(table)):
        if all((other[a] + other[b]) % modulus == value for (a, b), value in wanted):
            changes = differing(table, other)
            fewest = changes if fewest is None else min(fewest, changes)
    return fewest


def living_told(living, asked):
    """All that a living table tells of itself and of these keys."""
    each = [(living.value(key), living.places(key), living.ring(key)) for key in asked]
    return repr((living.kept(), living.table(), each))


class Watched:
    """A living table, and beside it what should be kept there."""

    def __init__(self, case, part, salt, modulus, small=False):
        self.case = case
        self.part = part
        self.salt = salt
        self.modulus = modulus
        # A small one has so few tables that all of them can be gone through.
        self.small = small
        self.living = case.asked(Living, part, salt, modulus)
        self.values = {}
        self.known_places = {}
        self.counts = []
        self.look()

    def places(self, key):
        if key not in self.known_places:
            self.known_places[key] = places_by_the_document(key, self.salt, 2, self.part)
        return self.known_places[key]

    def tied(self, place, without):
        """By the words of point 29: all places to which a chain leads."""
        found, before = {place}, set()
        while found != before:
            before = set(found)
            for key in self.values:
                if key != without and set(self.places(key)) & found:
                    found.update(self.places(key))
        return found

    def look(self):
        """Behind each put and drop: the table's form, the kept keys, and that each tells its value."""
        table = self.case.asked(self.living.table)
        self.case.assertIs(table.__class__, list)
        self.case.assertEqual(len(table), 2 * self.part)
        self.case.assertTrue(all(number.__class__ is int and 0 <= number < self.modulus for number in table))
        self.case.tells(sorted(self.values.items(), key=lambda pair: stamp_by_the_document(pair[0])), self.living.kept)
        for key, value in self.values.items():
            self.case.tells(value, self.living.value, key)
            self.case.assertEqual(sum(table[place] for place in self.places(key)) % self.modulus, value)

    def look_ring(self, key):
        """The ring against the chains of kept keys; told again."""
        ring = self.case.asked(self.living.ring, key)
        first, second = self.places(key)
        if second not in self.tied(first, key):
            self.case.assertIsNone(ring)
            return None
        self.case.assertIs(ring.__class__, list)
        self.case.assertEqual(len(set(ring)), len(ring))
        self.case.assertNotIn(key, ring)
        place = first
        for each in ring:
            self.case.assertIn(each, list(self.values))
            places = list(self.places(each))
            self.case.assertIn(place, places)
            places.remove(place)
            place = places[0]
        self.case.assertEqual(place, second)
        return ring

    def sum_of_ring(self, ring):
        """Point 31: the first one's value added, the second one's taken away, and so on."""
        return sum(self.values[key] * (-1) ** turn for turn, key in enumerate(ring)) % self.modulus

    def put(self, key, value):
        """Put, and all that points 30 and 31 say of it looked at; what it should have told is told."""
        before, kept = self.living.table(), self.living.kept()
        ring = self.look_ring(key)
        first, second = self.places(key)
        if (before[first] + before[second]) % self.modulus == value:
            expected = 0
        elif ring is not None:
            expected = None
        else:
            expected = min(len(self.tied(first, key)), len(self.tied(second, key)))
        if self.small:
            wanted = [(self.places(other), self.values[other]) for other in self.values if other != key]
            fewest = fewest_changes(before, self.modulus, wanted + [((first, second), value)])
            self.case.assertEqual(fewest, expected)
        if ring is not None:
            self.case.assertEqual(self.sum_of_ring(ring) == value, expected is not None)
        if expected is None:
            self.case.refused(Stuck, None, self.living.put, key, value)
            self.case.tells(before, self.living.table)
            self.case.tells(kept, self.living.kept)
            self.case.tells(ring, self.living.ring, key)
        else:
            self.case.tells(expected, self.living.put, key, value)
            self.case.assertEqual(differing(before, self.living.table()), expected)
            self.values[key] = value
            self.look()
        self.counts.append(expected)
        return expected

    def drop(self, key):
        before = self.living.table()
        if key in self.values:
            self.case.tells(None, self.living.drop, key)
            self.values.pop(key)
        else:
            self.case.refused(NoSuch, None, self.living.drop, key)
        self.case.tells(before, self.living.table)
        self.look()

    def refuse(self, strangers):
        """What is refused, whatever is kept; nothing changes by it."""
        asked = list(self.values)[:5] + strangers[:5]
        before = living_told(self.living, asked)
        for key in asked:
            for value in (-1, self.modulus, self.modulus + 1, -10 ** 39, 10 ** 39, True, False):
                self.case.refused(NoValue, 0, self.living.put, key, value)
        for thing in (-1, GREATEST + 1, "A", "a" * 12, True, False):
            for value in (0, 1, -1, self.modulus):
                self.case.refused(NoKey, 0, self.living.put, thing, value)
            self.case.refused(NoKey, 0, self.living.drop, thing)
            self.case.refused(NoKey, 0, self.living.ring, thing)
        for key in strangers[:5]:
            if key not in self.values:
                self.case.refused(NoSuch, None, self.living.drop, key)
        self.case.assertEqual(living_told(self.living, asked), before)
