"""Filling a table, so that the numbers at each edge's places have the wanted sum."""

from lodge.bits import is_below


def remainder(number, modulus):
    # A modulus of 0 is no refusal by itself, and has no remainder.
    return 0 if modulus == 0 else number % modulus


def summed(table, places, modulus):
    # A list counts places below 0 from its end; outside of a table there is nothing to add.
    found = [table[place] for place in places if is_below(place, len(table))]
    return remainder(sum(found), modulus)


def filled(edges, size, order, wanted, modulus):
    table = [0] * size
    # Backwards, since no edge that was taken later stands at the own place of one taken earlier:
    # that place still has 0, and no sum that is right already changes with it.
    for number, place in reversed(order):
        lacking = wanted[number] - summed(table, edges[number], modulus)
        if is_below(place, size):
            table[place] = remainder(lacking, modulus)
    return table
