"""Tries: the places that keys have in a table by a salt, and what peeling tells of them."""

from lodge.errors import NoTry
from lodge.keys import look_keys, mixed, stamp
from lodge.peel import peeled


def part_size(many, kind):
    if kind < 3:
        return many + many // 8 + 1
    return (41 * many) // 100 + 2


def places_of(key, salt, kind, part):
    number = stamp(key)
    return tuple([turn * part + mixed(number, 4 * salt + turn, part) for turn in range(kind)])


def edges_of(keys, salt, kind):
    part = part_size(look_keys(keys), kind)
    return [places_of(key, salt, kind, part) for key in keys]


def fate(keys, salt, kind):
    edges = edges_of(keys, salt, kind)
    return peeled(edges, kind * part_size(len(keys), kind))


def succeeds(keys, salt, kind):
    left = fate(keys, salt, kind)[1]
    return len(left) == 0


def first_try(keys, kind, most):
    # Where most leaves no salt to try, the keys are refused ahead of that all the same.
    look_keys(keys)
    for salt in range(most):
        if succeeds(keys, salt, kind):
            return salt
    raise NoTry()
