"""Houses by peeling: each key has a room of its own, told by a table that doesn't keep the keys."""

from lodge.bits import ones_before
from lodge.keys import look_each_key
from lodge.tables import table_for
from lodge.tries import fate, first_try, part_size


# The base alone: each kind of house has its own rule, number_of, which tells a key's number.
class House:
    def __init__(self, how_many):
        self.how_many = how_many

    def many(self):
        return self.how_many

    def room(self, key):
        # A stranger's number may be one too great.
        return min(self.number_of(key), self.how_many - 1)

    def rooms(self, keys):
        # Ahead of all rooms, since a key that is refused in a list has its place there.
        look_each_key(keys)
        return [self.room(key) for key in keys]


def chosen_places(keys, salt, kind):
    # Peeling takes no two keys at the same place.
    chosen = {}
    for number, place in fate(keys, salt, kind)[0]:
        chosen[number] = place
    return [chosen[number] for number in range(len(keys))]


def row_with_ones(places, size):
    return "".join(["1" if place in places else "0" for place in range(size)])


class Peeled(House):
    def __init__(self, keys, kind, most):
        salt = first_try(keys, kind, most)
        House.__init__(self, len(keys))
        part = part_size(len(keys), kind)
        chosen = chosen_places(keys, salt, kind)
        # A key has one place in each part, so the part tells the place's number.
        self.own_table = table_for(keys, salt, kind, kind, [place // part for place in chosen])
        self.used_row = row_with_ones(chosen, kind * part)

    def salt(self):
        return self.own_table.salt()

    def table(self):
        return self.own_table.table()

    def used(self):
        return self.used_row

    def places(self, key):
        return self.own_table.places(key)

    def number_of(self, key):
        choice = self.places(key)[self.own_table.total(key)]
        return ones_before(self.used_row, choice)


class Ordered(House):
    def __init__(self, keys, kind, most):
        salt = first_try(keys, kind, most)
        House.__init__(self, len(keys))
        self.own_table = table_for(keys, salt, kind, len(keys), list(range(len(keys))))

    def salt(self):
        return self.own_table.salt()

    def table(self):
        return self.own_table.table()

    def places(self, key):
        return self.own_table.places(key)

    def number_of(self, key):
        return self.own_table.total(key)
