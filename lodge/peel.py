"""Peeling: taking edges, one by one, at places where each stands alone."""

from lodge.bits import is_below
from lodge.errors import NoEdges

MOST_PLACES = 4


def is_edge(edge, size):
    if len(edge) == 0 or len(edge) > MOST_PLACES:
        return False
    return len(set(edge)) == len(edge) and all([is_below(place, size) for place in edge])


def look_edges(edges, size):
    for number, edge in enumerate(edges):
        if not is_edge(edge, size):
            raise NoEdges(number)
    return True


def standing_at(edges):
    # Only places with edges are kept, since a size may be far greater than they are many.
    standing = {}
    for number, edge in enumerate(edges):
        for place in edge:
            if place not in standing:
                standing[place] = {}
            standing[place][number] = True
    return standing


def take_away(number, edge, standing):
    for place in edge:
        standing[place].pop(number, None)


def peeled(edges, size):
    standing = standing_at(edges)
    waiting = list(standing)
    order = []
    taken = {}
    while len(waiting) > 0:
        place = waiting.pop()
        if len(standing[place]) == 1:
            number = min(standing[place])
            order.append((number, place))
            taken[number] = True
            take_away(number, edges[number], standing)
            # Another edge may now stand alone at any of its places.
            waiting.extend(edges[number])
    left = [number for number in range(len(edges)) if number not in taken]
    return (order, left)
