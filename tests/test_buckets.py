"""Points 24 and 25, and 3 (a), (c)."""

import unittest

from lodge.buckets import Buckets
from lodge.errors import NoFit, NoKey, NoKeys, Twice
from tests.helper import (
    GREATEST, HouseCase, buckets_by_the_document, key_lists, mixed_by_the_document, some_numbers,
    some_texts, stamp_by_the_document, strangers_to,
)

MANY_BUCKETS = (1, 2, 3, 7, 40, 100, 199, 200)
MOSTS = (1, 2, 10, 100, 1000)


def each_call():
    """Each list of keys with few and many buckets and mosts, and what the document tells of it."""
    for keys in key_lists():
        for many_buckets in MANY_BUCKETS:
            for most in MOSTS:
                yield (keys, many_buckets, most, buckets_by_the_document(keys, many_buckets, most))


# Told once, since the walk through the numbers by the document takes long.
CALLS = list(each_call())


def each_house():
    """Houses with their keys, many_buckets and numbers by the document; of alike houses one."""
    seen = []
    for keys, many_buckets, most, told in CALLS:
        if isinstance(told, list) and (keys, many_buckets, told) not in seen:
            seen.append((keys, many_buckets, told))
            yield (Buckets(keys, many_buckets, most), keys, many_buckets, told)


def bucket_by_the_document(key, many_buckets):
    return mixed_by_the_document(stamp_by_the_document(key), 0, many_buckets)


def all_told(house, asked):
    each = [(house.bucket(key), house.room(key)) for key in asked]
    return repr((house.many(), house.numbers(), each, house.rooms(asked)))


class BucketsTest(HouseCase):
    def test_numbers_or_no_fit_by_the_rule(self):
        fitting, at = 0, set()
        for keys, many_buckets, most, told in CALLS:
            if isinstance(told, list):
                fitting = fitting + 1
                self.tells(told, self.asked(Buckets, keys, many_buckets, most).numbers)
            else:
                at.add(told)
                self.refused(NoFit, told, Buckets, keys, many_buckets, most)
        # Else one of the two would hardly have been looked at.
        self.assertGreater(fitting, 100)
        self.assertGreater(len(at), 10)

    def test_two_hundred_keys_have_houses(self):
        many = [len(keys) for house, keys, many_buckets, told in each_house()]
        self.assertGreater(many.count(200), 3)

    def test_what_every_house_tells(self):
        for house, keys, many_buckets, told in each_house():
            self.look_house(house, keys)

    def test_buckets(self):
        for house, keys, many_buckets, told in each_house():
            for key in keys + strangers_to(keys)[::5]:
                self.tells(bucket_by_the_document(key, many_buckets), house.bucket, key)

    def test_rooms_by_the_buckets_number(self):
        for house, keys, many_buckets, told in each_house():
            for key in keys + strangers_to(keys)[::5]:
                number = told[bucket_by_the_document(key, many_buckets)]
                self.tells(mixed_by_the_document(stamp_by_the_document(key), number + 1, len(keys)), house.room, key)

    def test_each_number_is_the_least_that_fits(self):
        """Bucket by bucket in turn, each lesser number clashes within or with one ahead."""
        for house, keys, many_buckets, told in each_house():
            numbers, taken = house.numbers(), []
            within = {bucket: [] for bucket in range(many_buckets)}
            for key in keys:
                within[house.bucket(key)].append(stamp_by_the_document(key))
            for bucket in sorted(within, key=lambda each: (-len(within[each]), each)):
                for number in range(numbers[bucket] + 1):
                    rooms = [mixed_by_the_document(each, number + 1, len(keys)) for each in within[bucket]]
                    fits = len(set(taken + rooms)) == len(taken + rooms)
                    self.assertEqual(fits, number == numbers[bucket])
                taken.extend(rooms)
            self.assertEqual(sorted(taken), list(range(len(keys))))

    def test_a_bucket_without_keys_has_0(self):
        for keys in ([5], [1, "a", 9]):
            house = Buckets(keys, 200, 1000)
            owned = [house.bucket(key) for key in keys]
            numbers = house.numbers()
            self.assertEqual(len(numbers), 200)
            self.assertTrue(all(numbers[bucket].__class__ is int for bucket in range(200)))
            self.assertTrue(all(numbers[bucket] == 0 for bucket in range(200) if bucket not in owned))

    def test_one_bucket(self):
        for keys in ([0], ["a", "b"], [3, 1, 2], ["x", 5, "", 0, GREATEST]):
            self.tells(buckets_by_the_document(keys, 1, 1000), Buckets(keys, 1, 1000).numbers)
        self.tells([504], Buckets(list(range(200)), 1, 1000).numbers)
        self.refused(NoFit, 0, Buckets, list(range(200)), 1, 504)
        self.refused(NoFit, 0, Buckets, some_numbers(200, 1), 1, 1000)

    def test_most_just_enough(self):
        for keys in (some_numbers(5, 1), some_texts(30, 2), some_numbers(60, 1)):
            for many_buckets in (20, 60, 200):
                numbers = buckets_by_the_document(keys, many_buckets, 1000)
                enough = max(numbers) + 1
                self.tells(numbers, Buckets(keys, many_buckets, enough).numbers)
                if enough > 1:
                    at = buckets_by_the_document(keys, many_buckets, enough - 1)
                    self.refused(NoFit, at, Buckets, keys, many_buckets, enough - 1)
                    self.assertGreaterEqual(numbers[at], enough - 1)

    def test_the_order_of_the_keys_changes_nothing(self):
        keys = some_numbers(40, 3) + some_texts(40, 3)
        house = Buckets(keys, 60, 1000)
        for others in (keys[::-1], keys[13:] + keys[:13]):
            other = Buckets(others, 60, 1000)
            self.tells(house.numbers(), other.numbers)
            self.tells(house.rooms(keys), other.rooms, keys)

    def test_wrong_lists_go_first(self):
        for many_buckets in (1, 5, 200):
            for most in (1000, 1, 0):
                self.refuses_wrong_lists(Buckets, many_buckets, most)
        # None of these fits by one number, but that is told last.
        keys = list(range(100))
        self.refused(NoFit, buckets_by_the_document(keys, 2, 1), Buckets, keys, 2, 1)
        self.refused(NoKey, 100, Buckets, keys + ["A"], 2, 1)
        self.refused(Twice, 100, Buckets, keys + [0], 2, 1)
        self.refused(NoKeys, None, Buckets, keys + keys + [0], 2, 1)

    def test_no_key(self):
        house = Buckets([1, "1", "a"], 2, 1000)
        before = all_told(house, [1, "1", "a", "b"])
        self.refuses_single_keys(house.bucket)
        self.refuses_keys_asked(house)
        self.assertEqual(all_told(house, [1, "1", "a", "b"]), before)

    def test_beyond_the_bounds_nothing_is_refused(self):
        for keys in (["a"], ["a", 1, 7]):
            for many_buckets, most in [(201, 1000), (500, 1001), (3, 5000)]:
                house = self.asked(Buckets, keys, many_buckets, most)
                self.tells(buckets_by_the_document(keys, many_buckets, most), house.numbers)
                self.look_house(house, keys)
        # Without buckets all keys share one.
        house = self.asked(Buckets, ["a", 1, 7], 0, 1000)
        self.tells([], house.numbers)
        self.look_house(house, ["a", 1, 7])
        # Without numbers there is none that fits.
        self.refused(NoFit, bucket_by_the_document("a", 200), Buckets, ["a"], 200, 0)

    def test_told_lists_and_lists_handed_in(self):
        for house, keys, many_buckets, told in each_house():
            self.stays_as_made(lambda handed: Buckets(handed, many_buckets, 1000), keys, all_told)

    def test_the_keys_are_not_kept(self):
        for keys in (some_numbers(50, 5), some_texts(50, 6)):
            self.keeps_no_key(Buckets(keys, 50, 1000), keys)


if __name__ == "__main__":
    unittest.main()
