"""Rows of whole numbers, as lists."""


def single_rows(count):
    """So many rows of so many numbers: each has a 1 at a place of its own, else noughts."""
    return [[1 if k == place else 0 for k in range(count)] for place in range(count)]


def product(row, other):
    """The sum of the products of what stands at the same places."""
    return sum([a * b for a, b in zip(row, other)])


def plus_times(row, times, other):
    """A row and another row so many times."""
    return [a + times * b for a, b in zip(row, other)]
