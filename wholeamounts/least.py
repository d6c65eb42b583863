"""The least balanced numbers.

All balanced numbers of less than a given weight lie in a region with flat walls.
To find some in it, a frame is chosen: a basis of the lattice that they lie in,
reduced so that, seen by its rows, the region is about as wide one way as
another. Balanced numbers are the frame's rows, each some times, together. How
many times is tried out, row by row from the last, within what the walls allow:
for that, the walls are known of what the region is when seen along the rows not
tried yet. By a good frame there is little to try, however large the numbers are.
Better numbers are looked for until there are none.
"""

from wholeamounts.balance import some_balanced
from wholeamounts.cones import crossed
from wholeamounts.lattices import reduced
from wholeamounts.rows import plus_times, product, single_rows

# How fine the scales are by which a region is measured.
FINENESS = 1000


class Wall:
    """What holds of a point if numbers of at least 1 and at most of a weight lie behind it: its slack is not below 0.

    Behind a point lies what it becomes by the frame's rows that have not been tried yet. A wall comes of an edge
    with a number for each place and a last one, the share: the product of the edge with numbers, less the share
    times their weight, is the same for all that lies behind a point as for the point itself. And where numbers are
    at least 1, that product is at least the edge's total.
    """

    def __init__(self, edge, weights):
        self.share = edge[-1]
        self.total = sum(edge[:-1])
        self.row = plus_times(edge[:-1], -self.share, weights)

    def slack(self, point, weight):
        return product(self.row, point) + self.share * weight - self.total


class Region:
    """Balanced numbers of at most a weight, as a frame shows them."""

    def __init__(self, frame, weights, limit):
        self.frame = frame
        self.limit = limit
        # By how many of the frame's first rows have not been tried yet.
        self.walls = walls_along(frame, weights)

    def seek(self, level, point):
        """Numbers of the region that lie behind a point, or None; the level says how many rows are not tried yet."""
        if level == 0:
            return point
        span = self.span(level, point, self.limit)
        # Low weights first, so that few searches lead to the least.
        lowest = self.span(level, point, self.lowest_weight(level, point))[0]
        start = max(span[0], min(span[1], lowest))
        for k in range(2 * (span[1] - span[0]) + 1):
            times = start + outward(k)
            if span[0] <= times and times <= span[1]:
                found = self.seek(level - 1, plus_times(point, times, self.frame[level - 1]))
                if found is not None:
                    return found
        return None

    def span(self, level, point, weight):
        """From how many to how many times the row that's tried next can be taken, for at most that weight."""
        low = None
        high = None
        for wall in self.walls[level - 1]:
            slack = wall.slack(point, weight)
            slope = product(wall.row, self.frame[level - 1])
            if slope > 0:
                low = -(slack // slope) if low is None else max(low, -(slack // slope))
            elif slope < 0:
                high = slack // -slope if high is None else min(high, slack // -slope)
            elif slack < 0:
                return (1, 0)
        return (low, high)

    def lowest_weight(self, level, point):
        """No numbers behind the point have less weight."""
        return max([-(wall.slack(point, 0) // wall.share) for wall in self.walls[level] if wall.share > 0])


def outward(k):
    """0, 1, -1, 2, -2 and so on."""
    return (k + 1) // 2 if k % 2 == 1 else -(k // 2)


def walls_along(frame, weights):
    """The walls of a region as seen along none, the first, the first two and so on of the frame's rows.

    Seen along none, they are that each number is at least 1 and that the weight is at most the limit.
    """
    edges = single_rows(len(weights) + 1)
    walls = [[Wall(edge, weights) for edge in edges]]
    for row in frame:
        edges = crossed(edges, row + [-product(row, weights)])
        walls.append([Wall(edge, weights) for edge in edges])
    return walls


def least_balanced(balance):
    """The least balanced numbers, or a refusal where there are none."""
    best = some_balanced(balance)
    weights = weights_for(best)
    better = best
    while better is not None:
        best = better
        better = find_within(balance, weights, product(weights, best) - 1)
    return best


def weights_for(numbers):
    """Weights by which a less sum weighs less, and of one sum the row that's first, if it's no more than these's.

    No number can be more than the sum, so the weight's digits are the sum and the numbers.
    """
    base = sum(numbers) + 1
    powers = [1]
    for number in numbers:
        powers.append(powers[-1] * base)
    return [powers[-1] + power for power in reversed(powers[:-1])]


def find_within(balance, weights, limit):
    """Balanced numbers of at most that weight, or None."""
    scales = scales_for(balance, weights, limit)
    if scales is None:
        return None
    frame = reduced(balance.basis, scales)
    start = [0 for weight in weights]
    return Region(frame, weights, limit).seek(len(frame), start)


def scales_for(balance, weights, limit):
    """Scales by which all numbers of the region range about as far; None if it's empty.

    The corners are found as edges of a cone: how far the numbers are above 1 and the weight below the limit,
    times a last number.
    """
    corners = single_rows(len(weights) + 2)
    for row in balance.rows:
        corners = crossed(corners, row + [0, sum(row)])
    corners = crossed(corners, weights + [1, sum(weights) - limit])
    if len(corners) == 0:
        return None
    ranges = []
    for k in range(len(weights)):
        ranges.append(max([1] + [-(-corner[k] // corner[-1]) for corner in corners]))
    return [FINENESS * max(ranges) // one for one in ranges]
