"""Cones: all rows without a number below 0 whose products with some rows are 0.

A cone is told by its edges: each of its rows is a sum of multiples of these. An edge is a row of the cone with
so many noughts that no other has noughts at all these places, but for its multiples.
"""

from wholeamounts.rows import plus_times, product
from wholeamounts.terms import common_divisor


def crossed(edges, row):
    """The edges of that part of a cone whose product with a row is 0.

    These are the edges that have it, and one between each two neighbours that lie on either side.
    """
    values = [product(row, edge) for edge in edges]
    places = [places_used(edge) for edge in edges]
    found = [edge for edge, value in zip(edges, values) if value == 0]
    for k in [index for index, value in enumerate(values) if value > 0]:
        for j in [index for index, value in enumerate(values) if value < 0]:
            if are_neighbours(places, k, j):
                multiple = [-values[j] * number for number in edges[k]]
                found.append(without_common_divisor(plus_times(multiple, values[k], edges[j])))
    return found


def places_used(edge):
    """The places of an edge where no nought is, as the ones among a number's bits."""
    bits = 0
    for number in edge:
        bits = 2 * bits + (1 if number != 0 else 0)
    return bits


def are_neighbours(places, k, j):
    """Whether no third edge keeps to the places that two edges use."""
    both = places[k] | places[j]
    for index, used in enumerate(places):
        if used | both == both and index != k and index != j:
            return False
    return True


def without_common_divisor(row):
    divisor = 0
    for number in row:
        divisor = common_divisor(divisor, number)
    return [number // divisor for number in row]
