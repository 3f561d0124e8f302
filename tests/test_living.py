"""Points 28 to 32, and 3 (f)."""

import random
import unittest

from lodge.errors import NoKey, NoSuch, NoValue, Stuck
from lodge.houses import House
from lodge.living import Living
from tests.helper import (
    GREATEST, AskCase, Watched, key_lists, living_told, places_by_the_document, some_keys, some_numbers, some_texts,
    stamp_by_the_document, strangers_to,
)


def go(watched, keys, steps, seed):
    """A long row of put, put again and drop, by chance, but each time the same."""
    chosen = random.Random(seed)
    for step in range(steps):
        key = chosen.choice(keys)
        what = chosen.randrange(10)
        if what < 6:
            watched.put(key, chosen.randrange(watched.modulus))
        elif what < 7:
            # What it tells already.
            watched.put(key, watched.living.value(key))
        elif what < 8 and watched.values:
            watched.put(chosen.choice(list(watched.values)), chosen.randrange(watched.modulus))
        elif what < 9 and watched.values:
            watched.drop(chosen.choice(list(watched.values)))
        else:
            watched.drop(key)
    watched.refuse(keys)


class RowsTest(AskCase):
    def test_small_tables_gone_through(self):
        counts = []
        for part, modulus, many, steps in [
            (1, 2, 4, 30), (1, 5, 4, 30), (1, 30, 4, 20), (2, 2, 7, 60), (2, 3, 7, 60), (2, 5, 7, 40), (3, 2, 8, 100),
            (3, 3, 9, 100), (4, 2, 10, 200), (5, 2, 10, 100),
        ]:
            for salt in (0, 1, 7):
                watched = Watched(self, part, salt, modulus, small=True)
                go(watched, some_keys(many, part + salt), steps, modulus + salt)
                counts.extend(watched.counts)
        # Else one of the fates would hardly have been looked at.
        for count in (None, 0, 1, 2, 3):
            self.assertGreater(counts.count(count), 10)

    def test_greater_tables(self):
        counts = []
        for part, many, steps in [(1, 5, 40), (2, 5, 60), (3, 6, 100), (5, 12, 150), (10, 20, 150), (25, 40, 120)]:
            for modulus in (2, 3, 10, 1000, 1000000000):
                for seed in (part, part + 1, part + 2):
                    watched = Watched(self, part, seed, modulus)
                    go(watched, some_keys(many, seed), steps, modulus)
                    counts.extend(watched.counts)
        for count in (None, 0, 1, 2, 3, 4, 5):
            self.assertGreater(counts.count(count), 10)

    def test_numbers_alone_and_texts_alone(self):
        for keys in (list(range(12)), some_numbers(12, 5), some_texts(12, 5), [f"key {turn}" for turn in range(12)]):
            for part in (2, 6, 9):
                go(Watched(self, part, 3, 100), keys, 60, part)

    def test_many_keys(self):
        counts = []
        for part, modulus in [(300, 2), (300, 1000000000), (150, 77), (120, 999)]:
            keys = some_keys(200, part)
            watched = Watched(self, part, 2, modulus)
            chosen = random.Random(part)
            for key in keys:
                watched.put(key, chosen.randrange(modulus))
            self.assertGreater(len(watched.values), 100)
            for key in keys[::4]:
                watched.drop(key)
            for key in keys[::3]:
                watched.put(key, chosen.randrange(modulus))
            counts.extend(watched.counts)
        self.assertGreater(counts.count(None), 5)
        self.assertGreater(max(count for count in counts if count is not None), 20)

    def test_two_hundred_kept(self):
        watched = Watched(self, 300, 0, 50)
        keys = some_keys(400, 9)
        while len(watched.values) < 200:
            watched.put(keys.pop(), len(keys) % 50)
        self.assertEqual(len(watched.living.kept()), 200)

    def test_salts(self):
        for salt in (0, 1, 5, 299, 10 ** 6, 10 ** 12):
            go(Watched(self, 4, salt, 9), some_keys(8, 1), 40, 2)

    def test_a_chain_that_grows(self):
        """Keys put so that the places tied together grow: the lesser side is changed each time."""
        for part in (5, 20):
            watched = Watched(self, part, 1, 1000)
            chosen = random.Random(part)
            for key in some_keys(4 * part, 3):
                if watched.look_ring(key) is None:
                    watched.put(key, chosen.randrange(1000))
            self.assertGreater(len(watched.tied(0, None)), part)
            for key in list(watched.values):
                watched.put(key, (watched.values[key] + 1) % 1000)
            self.assertGreater(max(watched.counts), part // 3)


class LivingTest(AskCase):
    def twins(self, living, key, many):
        """Keys with the same two places as this one."""
        found = []
        number = 0
        while len(found) < many:
            if number != key and living.places(number) == living.places(key):
                found.append(number)
            number = number + 1
        return found

    def test_at_first(self):
        for part in (1, 2, 3, 50, 299, 300):
            for salt in (0, 1, 1000):
                for modulus in (2, 3, 1000000000):
                    living = self.asked(Living, part, salt, modulus)
                    self.assertNotIsInstance(living, House)
                    self.tells([0] * (2 * part), living.table)
                    self.tells([], living.kept)
                    for key in (0, "", GREATEST, "a", " " * 11):
                        self.tells(0, living.value, key)
                        self.tells(None, living.ring, key)
                        self.refused(NoSuch, None, living.drop, key)

    def test_places(self):
        for part in (1, 2, 7, 300):
            for salt in (0, 1, 2, 33, 10 ** 9):
                living = Living(part, salt, 10)
                for key in key_lists()[-5][:20] + strangers_to([])[::10]:
                    self.tells(places_by_the_document(key, salt, 2, part), living.places, key)

    def test_value_of_any_key(self):
        living = Living(8, 2, 1000)
        for turn, key in enumerate(some_keys(12, 4)):
            try:
                living.put(key, turn * 77)
            except Stuck:
                pass
        table = living.table()
        self.assertGreater(len(set(table)), 3)
        for key in strangers_to([]):
            places = places_by_the_document(key, 2, 2, 8)
            self.tells(sum(table[place] for place in places) % 1000, living.value, key)

    def test_one_key(self):
        for key in (0, GREATEST, "", "low_line", " " * 11):
            living = Living(6, 1, 50)
            self.tells(0, living.put, key, 0)
            self.tells([(key, 0)], living.kept)
            self.tells(1, living.put, key, 49)
            self.tells(0, living.put, key, 49)
            self.tells(1, living.put, key, 1)
            self.tells([(key, 1)], living.kept)
            self.tells(1, living.value, key)
            self.tells(None, living.ring, key)
            self.tells(None, living.drop, key)
            self.tells([], living.kept)
            self.tells(1, living.value, key)
            self.tells(1, sum, living.table())
            self.refused(NoSuch, None, living.drop, key)

    def test_a_twin_is_stuck_but_by_the_same_value(self):
        living = Living(4, 0, 10)
        twin, other = self.twins(living, 5, 2)
        self.tells(1, living.put, 5, 7)
        for value in range(10):
            if value != 7:
                self.refused(Stuck, None, living.put, twin, value)
        self.tells([5], living.ring, twin)
        self.tells([(5, 7)], living.kept)
        self.tells(0, living.put, twin, 7)
        # Now each of the two binds the other one.
        self.tells([twin], living.ring, 5)
        self.tells([5], living.ring, twin)
        self.refused(Stuck, None, living.put, 5, 8)
        self.refused(Stuck, None, living.put, twin, 8)
        self.assertIn(self.asked(living.ring, other), [[5], [twin]])
        living.drop(5)
        self.tells([twin], living.ring, other)
        self.tells(1, living.put, twin, 8)
        self.tells(8, living.value, 5)
        self.refused(Stuck, None, living.put, 5, 7)

    def test_stuck_comes_last(self):
        living = Living(1, 0, 3)
        living.put("a", 2)
        before = living_told(living, ["a", "b"])
        self.refused(Stuck, None, living.put, "b", 1)
        for value in (-1, 3, 4, True, False):
            self.refused(NoValue, 0, living.put, "b", value)
            self.refused(NoKey, 0, living.put, "B", value)
        self.refused(NoKey, 0, living.put, "B", 1)
        self.refused(NoKey, 0, living.drop, "B")
        self.refused(NoSuch, None, living.drop, "b")
        self.assertEqual(living_told(living, ["a", "b"]), before)

    def test_no_key(self):
        living = Living(3, 1, 10)
        living.put(1, 5)
        living.put("1", 5)
        before = living_told(living, [1, "1", 2])
        for call in (living.value, living.places, living.ring, living.drop):
            self.refuses_single_keys(call)
        self.refuses_single_keys(lambda thing: living.put(thing, 5))
        self.refuses_single_keys(lambda thing: living.put(thing, 10))
        self.assertEqual(living_told(living, [1, "1", 2]), before)

    def test_true_is_not_1(self):
        living = Living(3, 1, 10)
        living.put(1, 5)
        living.put(0, 5)
        self.refused(NoKey, 0, living.drop, True)
        self.refused(NoKey, 0, living.drop, False)
        self.refused(NoKey, 0, living.value, True)
        self.refused(NoValue, 0, living.put, 1, True)
        self.refused(NoValue, 0, living.put, 1, False)
        self.tells([(0, 5), (1, 5)], living.kept)

    def test_values_at_the_bounds(self):
        for modulus in (2, 3, 1000000000):
            living = Living(50, 0, modulus)
            self.tells(1, living.put, "a", modulus - 1)
            self.tells(modulus - 1, living.value, "a")
            self.tells(1, living.put, "a", 0)
            self.refused(NoValue, 0, living.put, "a", modulus)
            self.refused(NoValue, 0, living.put, "new", modulus)
            self.refused(NoValue, 0, living.put, "new", -1)
            self.tells([("a", 0)], living.kept)

    def test_kept_by_the_stamps(self):
        keys = [3, "b", 1, "a", "", 100, GREATEST, " ", 0, "1", 41, "aa", 42]
        for order in (keys, keys[::-1], sorted(keys, key=str)):
            living = Living(300, 5, 100)
            for key in order:
                living.put(key, 9 if isinstance(key, str) else 5)
            told = sorted(keys, key=stamp_by_the_document)
            self.tells([(key, 9 if isinstance(key, str) else 5) for key in told], living.kept)
            living.drop("a")
            self.tells([(key, 9 if isinstance(key, str) else 5) for key in told if key != "a"], living.kept)

    def test_1_and_the_text_1_are_unlike(self):
        living = Living(300, 0, 10)
        living.put(1, 4)
        living.put("1", 6)
        self.tells([(1, 4), ("1", 6)], living.kept)
        living.drop(1)
        self.tells([("1", 6)], living.kept)
        self.refused(NoSuch, None, living.drop, 1)

    def test_told_lists_are_the_askers_own(self):
        living = Living(3, 1, 10)
        keys = list(range(8))
        for key in keys:
            living.put(key, living.value(key) if living.ring(key) else key)
        self.assertTrue(any(living.ring(key) for key in keys))
        before = living_told(living, keys + [77, "x"])
        self.tells_own_lists(living.table)
        self.tells_own_lists(living.kept)
        for key in keys + [77, "x"]:
            self.tells_own_lists(living.ring, key)
        self.assertEqual(living_told(living, keys + [77, "x"]), before)

    def test_a_later_put_shows_in_no_answer_told_before(self):
        living = Living(3, 1, 10)
        living.put(1, 5)
        table, kept = living.table(), living.kept()
        told = repr((table, kept))
        living.put(2, 7)
        living.put(1, 8)
        living.drop(2)
        self.assertEqual(repr((table, kept)), told)

    def test_asked_twice_it_answers_alike(self):
        living = Living(4, 0, 100)
        keys = some_keys(10, 8)
        for turn, key in enumerate(keys):
            living.put(key, living.value(key) if living.ring(key) else turn)
        asked = keys + strangers_to(keys)[::9]
        self.assertTrue(any(living.ring(key) for key in keys))
        before = living_told(living, asked)
        self.assertEqual(living_told(living, asked), before)
        # Nor does a put or drop that is refused change any answer.
        for key in asked:
            if living.ring(key) is not None:
                self.refused(Stuck, None, living.put, key, (living.value(key) + 1) % 100)
        self.assertEqual(living_told(living, asked), before)

    def test_two_tables_are_apart(self):
        first = Living(3, 1, 10)
        second = Living(3, 1, 10)
        first.put(1, 5)
        self.tells([0] * 6, second.table)
        self.tells([], second.kept)

    def test_beyond_the_bounds_nothing_is_refused(self):
        for part, salt, modulus in [(301, 0, 5), (500, 3, 10 ** 9 + 7), (4, 10 ** 20, 10 ** 12), (3, 1, 1)]:
            go(Watched(self, part, salt, modulus), some_keys(10, 1), 30, 1)
        # Without places no key tells anything but 0.
        living = self.asked(Living, 0, 0, 5)
        self.tells([], living.table)
        self.tells(0, living.put, "a", 0)
        self.refused(Stuck, None, living.put, "a", 1)
        self.tells([("a", 0)], living.kept)


if __name__ == "__main__":
    unittest.main()
