"""Houses by halves: the keys are parted by salts until the parts are small enough to be mixed to rooms."""

from lodge.errors import NoFit
from lodge.houses import House
from lodge.keys import look_keys, mixed, stamp


def left_size(size):
    return (size + 1) // 2


def is_last(size, leaf):
    # One key can't be parted, by whatever leaf.
    return size <= max(leaf, 1)


def on_side(stamps, salt, side):
    return [number for number in stamps if mixed(number, salt, 2) == side]


def salt_fits(stamps, salt, leaf):
    size = len(stamps)
    if is_last(size, leaf):
        return len(set([mixed(number, salt, size) for number in stamps])) == size
    return len(on_side(stamps, salt, 0)) == left_size(size)


def least_salt(stamps, leaf, most):
    for salt in range(most):
        if salt_fits(stamps, salt, leaf):
            return salt
    return None


def salts_for(stamps, leaf, most):
    salts = []
    waiting = [stamps]
    while len(waiting) > 0:
        part = waiting.pop()
        salt = least_salt(part, leaf, most)
        if salt is None:
            raise NoFit(len(salts))
        salts.append(salt)
        if not is_last(len(part), leaf):
            # The left half goes first with all within, so it is laid down last.
            waiting.append(on_side(part, salt, 1))
            waiting.append(on_side(part, salt, 0))
    return salts


def parts_within(size, leaf):
    if is_last(size, leaf):
        return 1
    left = left_size(size)
    return 1 + parts_within(left, leaf) + parts_within(size - left, leaf)


class Halved(House):
    def __init__(self, keys, leaf, most):
        House.__init__(self, look_keys(keys))
        self.leaf = leaf
        self.salts = salts_for([stamp(key) for key in keys], leaf, most)

    def numbers(self):
        return list(self.salts)

    def number_of(self, key):
        number = stamp(key)
        size = self.how_many
        # Which part it is in their order, and how many keys the left halves hold that were passed by.
        turn = 0
        passed = 0
        while not is_last(size, self.leaf):
            left = left_size(size)
            if mixed(number, self.salts[turn], 2) == 0:
                turn = turn + 1
                size = left
            else:
                turn = turn + 1 + parts_within(left, self.leaf)
                passed = passed + left
                size = size - left
        return passed + mixed(number, self.salts[turn], size)
