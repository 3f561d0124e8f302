"""Living tables: keys with their values come and go, and each time as few numbers as can be are changed."""

from lodge.bits import is_below
from lodge.errors import NoSuch, NoValue, Stuck
from lodge.fill import remainder, summed
from lodge.keys import stamp
from lodge.tries import places_of

KIND = 2


def ways_at(places_by_key):
    ways = {}
    for key, places in places_by_key:
        ways.setdefault(places[0], []).append((key, places[1]))
        ways.setdefault(places[1], []).append((key, places[0]))
    return ways


def steps_to(start, ways):
    # Each place that is tied to the start is kept with its step back, so that a chain can be walked from there.
    steps = {start: None}
    waiting = [start]
    while len(waiting) > 0:
        # The place that has waited longest goes first, so that chains are short.
        place = waiting.pop(0)
        for key, other in ways.get(place, []):
            if other not in steps:
                steps[other] = (key, place)
                waiting.append(other)
    return steps


def keys_on_the_way(place, steps):
    found = []
    step = steps[place]
    while step is not None:
        found.append(step[0])
        step = steps[step[1]]
    return found


class Living:
    def __init__(self, part, salt, modulus):
        self.part = part
        self.by_salt = salt
        self.modulus = modulus
        self.listed = [0] * (KIND * part)
        self.by_key = {}

    def value(self, key):
        return summed(self.listed, self.places(key), self.modulus)

    def kept(self):
        return [(key, self.by_key[key]) for key in sorted(self.by_key, key=stamp)]

    def table(self):
        return list(self.listed)

    def places(self, key):
        return places_of(key, self.by_salt, KIND, self.part)

    def ways_without(self, key):
        return ways_at([(other, self.places(other)) for other in self.by_key if other != key])

    def ring(self, key):
        places = self.places(key)
        steps = steps_to(places[1], self.ways_without(key))
        if places[0] not in steps:
            return None
        return keys_on_the_way(places[0], steps)

    def put(self, key, value):
        places = self.places(key)
        if not is_below(value, self.modulus):
            raise NoValue(0)
        lacking = value - self.value(key)
        changed = 0
        if lacking != 0:
            changed = self.mend(places, lacking, self.ways_without(key))
        self.by_key[key] = value
        return changed

    def mend(self, places, lacking, ways):
        first = steps_to(places[0], ways)
        second = steps_to(places[1], ways)
        if places[1] in first:
            raise Stuck()
        if len(first) <= len(second):
            self.shift(first, lacking, -lacking)
            return len(first)
        self.shift(second, -lacking, lacking)
        return len(second)

    def shift(self, tied, in_first_part, in_second_part):
        # A kept key has one place in each part: where the one gets more and the other as much less, its sum stays.
        numbers = []
        for place, number in enumerate(self.listed):
            more = in_first_part if place < self.part else in_second_part
            numbers.append(remainder(number + more, self.modulus) if place in tied else number)
        self.listed = numbers

    def drop(self, key):
        # Asked only so that it refuses what is no key.
        stamp(key)
        if key not in self.by_key:
            raise NoSuch()
        self.by_key.pop(key)
