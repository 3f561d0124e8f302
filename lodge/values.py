"""Tables that keep values beside keys, or marks by which strangers are told."""

from lodge.bits import is_below, two_to
from lodge.errors import NoRange, NoValue
from lodge.keys import GREATEST_NUMBER, look_each_key, look_keys, mark
from lodge.tables import table_for
from lodge.tries import first_try

MOST_LOOKED_AT = 2000


def look_values(values, many, limit):
    for place, value in enumerate(values):
        if place >= many or not is_below(value, limit):
            raise NoValue(place)
    if len(values) < many:
        raise NoValue(len(values))


class Kept:
    def __init__(self, keys, values, width, kind, most):
        limit = two_to(width)
        self.how_many = look_keys(keys)
        look_values(values, len(keys), limit)
        salt = first_try(keys, kind, most)
        self.width = width
        self.own_table = table_for(keys, salt, kind, limit, values)

    def many(self):
        return self.how_many

    def salt(self):
        return self.own_table.salt()

    def table(self):
        return self.own_table.table()

    def places(self, key):
        return self.own_table.places(key)

    def value(self, key):
        return self.own_table.total(key)


class Marked:
    def __init__(self, keys, width, kind, most):
        salt = first_try(keys, kind, most)
        self.how_many = len(keys)
        self.width = width
        self.own_table = table_for(keys, salt, kind, two_to(width), [mark(key, width) for key in keys])

    def many(self):
        return self.how_many

    def salt(self):
        return self.own_table.salt()

    def table(self):
        return self.own_table.table()

    def places(self, key):
        return self.own_table.places(key)

    def knows(self, key):
        return self.own_table.total(key) == mark(key, self.width)


def mistaken(marked, keys, low, high):
    look_each_key(keys)
    if high - low >= MOST_LOOKED_AT:
        raise NoRange()
    own = {}
    for key in keys:
        own[key] = True
    # A number beyond these is no key, so none such is known.
    start = max(low, 0)
    end = min(high, GREATEST_NUMBER) + 1
    return [number for number in range(start, end) if number not in own and marked.knows(number)]
