"""Tables of keys: the sum of the numbers at a key's places tells something of the key."""

from lodge.fill import filled, summed
from lodge.tries import edges_of, fate, part_size, places_of


class Table:
    def __init__(self, salt, kind, part, modulus, listed):
        self.by_salt = salt
        self.kind = kind
        self.part = part
        self.modulus = modulus
        self.listed = listed

    def salt(self):
        return self.by_salt

    def table(self):
        return list(self.listed)

    def places(self, key):
        return places_of(key, self.by_salt, self.kind, self.part)

    def total(self, key):
        return summed(self.listed, self.places(key), self.modulus)


def table_for(keys, salt, kind, modulus, wanted):
    part = part_size(len(keys), kind)
    edges = edges_of(keys, salt, kind)
    order = fate(keys, salt, kind)[0]
    return Table(salt, kind, part, modulus, filled(edges, kind * part, order, wanted, modulus))
