"""What the search for the least numbers is built of: lattices, cones, and the weights that put rows in order."""

import itertools
import math
import random
import unittest

from wholeamounts.cones import crossed
from wholeamounts.lattices import kept_by, reduced
from wholeamounts.least import outward, weights_for
from wholeamounts.rows import product, single_rows


def drawn_rows(source, count, width, most):
    return [[source.randint(-most, most) for _ in range(width)] for _ in range(count)]


def determinant(table):
    if not table:
        return 1
    rest = [row[1:] for row in table]
    return sum((-1) ** k * row[0] * determinant(rest[:k] + rest[k + 1:]) for k, row in enumerate(table))


def spread(basis):
    """The determinant of the products of a basis's rows: the same for all bases of one lattice."""
    return determinant([[product(row, other) for other in basis] for row in basis])


class Lattices(unittest.TestCase):
    def test_kept_rows_have_product_nought_and_miss_none(self):
        source = random.Random(18)
        for _ in range(200):
            rows = drawn_rows(source, source.randint(1, 2), 3, 3)
            basis = single_rows(3)
            for row in rows:
                basis = kept_by(basis, row)
            for row, member in itertools.product(rows, basis):
                self.assertEqual(product(row, member), 0)
            for point in itertools.product(range(-3, 4), repeat=3):
                inside = all(product(row, point) == 0 for row in rows)
                self.assertEqual(self.is_in(basis, point), inside, (rows, basis, point))

    def is_in(self, basis, point):
        return spread(basis + [list(point)]) == 0 and self.has_whole_coordinates(basis, point)

    def has_whole_coordinates(self, basis, point):
        """Solved by the products with the basis's rows."""
        table = [[product(row, other) for other in basis] for row in basis]
        whole = determinant(table)
        for k in range(len(basis)):
            changed = [row[:k] + [product(member, point)] + row[k + 1:] for row, member in zip(table, basis)]
            if determinant(changed) % whole:
                return False
        return True

    def test_reduced_is_a_basis_of_the_same_lattice_with_short_rows(self):
        source = random.Random(19)
        for _ in range(300):
            count = source.randint(1, 5)
            basis = drawn_rows(source, count, 6, source.choice((3, 50, 10 ** 6)))
            if spread(basis) == 0:
                continue
            short = reduced(basis, [1] * 6)
            self.assertEqual(spread(short), spread(basis))
            self.assertTrue(all(self.has_whole_coordinates(basis, row) for row in short))
            # What is promised of such rows: the squares of their lengths, multiplied, are not much above the least.
            squares = math.prod(product(row, row) for row in short)
            self.assertLessEqual(squares, 2 ** (count * (count - 1) // 2) * spread(basis))

    def test_reduced_by_scales(self):
        # With the first place stretched, the short rows are those that have little there.
        short = reduced([[1, 0], [0, 1]], [1000, 1])
        self.assertEqual(sorted(abs(row[0]) for row in short), [0, 1])
        short = reduced([[1, 100], [0, 1]], [1, 1])
        self.assertEqual(sorted(product(row, row) for row in short), [1, 1])

    def test_handed_in_stays(self):
        basis = [[5, 1, 0], [7, 0, 1]]
        kept_by(basis, [1, 2, 3])
        reduced(basis, [1, 1, 1])
        self.assertEqual(basis, [[5, 1, 0], [7, 0, 1]])


def edges_by_supports(rows, width):
    """By brute force: rows of a cone with as few places as can be, found among small numbers."""
    points = [point for point in itertools.product(range(8), repeat=width)
              if any(point) and math.gcd(*point) == 1 and all(product(row, point) == 0 for row in rows)]
    supports = [{k for k, number in enumerate(point) if number} for point in points]
    return [list(point) for point, support in zip(points, supports) if not any(other < support for other in supports)]


class Cones(unittest.TestCase):
    def test_edges(self):
        source = random.Random(20)
        for _ in range(300):
            rows = drawn_rows(source, source.randint(1, 2), 4, 2)
            edges = single_rows(4)
            for row in rows:
                edges = crossed(edges, row)
            self.assertTrue(all(max(edge) < 8 for edge in edges))
            self.assertEqual(sorted(edges), sorted(edges_by_supports(rows, 4)), rows)

    def test_nothing_but_nought(self):
        self.assertEqual(crossed(single_rows(3), [1, 2, 3]), [])


class Weights(unittest.TestCase):
    def test_order_by_sum_then_by_row(self):
        rows = [row for row in itertools.product(range(1, 9), repeat=3) if sum(row) <= 10]
        weights = weights_for([2, 3, 5])
        told = sorted(rows, key=lambda row: product(weights, row))
        self.assertEqual(told, sorted(rows, key=lambda row: (sum(row), row)))

    def test_outward(self):
        self.assertEqual([outward(k) for k in range(7)], [0, 1, -1, 2, -2, 3, -3])


if __name__ == "__main__":
    unittest.main()
