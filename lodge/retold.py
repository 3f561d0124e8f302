"""Houses told as tuples, and made again of these without their keys."""

from lodge.bits import read_bits, two_to, width_for, written
from lodge.houses import Ordered, Peeled
from lodge.tables import Table
from lodge.tries import part_size
from lodge.values import Kept, Marked


# The classes made again take their own tables ready-made, where those above them ask for keys.
class PeeledAgain(Peeled):
    def __init__(self, how_many, own_table, used_row):
        self.how_many = how_many
        self.own_table = own_table
        self.used_row = used_row


class OrderedAgain(Ordered):
    def __init__(self, how_many, own_table):
        self.how_many = how_many
        self.own_table = own_table


class KeptAgain(Kept):
    def __init__(self, how_many, own_table, width):
        self.how_many = how_many
        self.own_table = own_table
        self.width = width


class MarkedAgain(Marked):
    def __init__(self, how_many, own_table, width):
        self.how_many = how_many
        self.own_table = own_table
        self.width = width


def told_by(name, house, width, used):
    bits = written(house.table(), width)
    return (name, house.own_table.kind, house.salt(), house.many(), width, bits, used)


def house_told(house):
    if isinstance(house, Peeled):
        return told_by("peeled", house, width_for(house.own_table.kind), house.used())
    if isinstance(house, Ordered):
        return told_by("ordered", house, width_for(house.many()), "")
    if isinstance(house, Kept):
        return told_by("kept", house, house.width, "")
    if isinstance(house, Marked):
        return told_by("marked", house, house.width, "")
    return None


def numbers_again(bits, width, size):
    # By a width of 0, which is no refusal by itself, no bits stand for as many numbers as there are.
    return read_bits(bits, width) if width > 0 else [0] * size


def house_of(name, kind, salt, many, width, bits, used):
    part = part_size(many, kind)
    listed = numbers_again(bits, width, kind * part)
    if name == "peeled":
        return PeeledAgain(many, Table(salt, kind, part, kind, listed), used)
    if name == "ordered":
        return OrderedAgain(many, Table(salt, kind, part, many, listed))
    own_table = Table(salt, kind, part, two_to(width), listed)
    if name == "kept":
        return KeptAgain(many, own_table, width)
    return MarkedAgain(many, own_table, width)


def made_again(what):
    return house_of(what[0], what[1], what[2], what[3], what[4], what[5], what[6])
