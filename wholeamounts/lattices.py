"""Lattices: all that rows of whole numbers, the basis, give when each is taken some times, or less than none."""

from wholeamounts.rows import plus_times, product


def kept_by(basis, row):
    """A basis of that part of a lattice whose product with a row is 0."""
    kept = list(basis)
    while True:
        values = [product(row, member) for member in kept]
        off = [k for k in range(len(kept)) if values[k] != 0]
        if len(off) < 2:
            return [member for member, value in zip(kept, values) if value == 0]
        # The others' products become less than the least one, as in a search for a common divisor.
        least = min(off, key=lambda k: abs(values[k]))
        for k in off:
            if k != least:
                kept[k] = plus_times(kept[k], -(values[k] // values[least]), kept[least])


def reduced(basis, scales):
    """A basis of the same lattice, of rows that are short and far from lying along one another.

    Lengths are measured with each place stretched by its scale. The way is Lenstra's, Lenstra's and Lovasz's:
    a row is made shorter by those before it, and stands ahead of one that it is much shorter than, seen from
    the rows before both.
    """
    rows = list(basis)
    k = 1
    while k < len(rows):
        for j in range(k - 1, -1, -1):
            table = right_angles(rows[:k + 1], scales)
            # The nearest whole number to how many times the row j lies in the row k.
            times = (2 * table[k][j] + table[j][j]) // (2 * table[j][j])
            rows[k] = plus_times(rows[k], -times, rows[j])
        if stands_well(right_angles(rows[:k + 1], scales), k):
            k += 1
        else:
            moved = rows[k]
            rows[k] = rows[k - 1]
            rows[k - 1] = moved
            k = max(k - 1, 1)
    return rows


def stands_well(table, k):
    """Whether the row k, less what lies along the rows before k - 1, is hardly shorter than the row k - 1 so."""
    before = table[k - 2][k - 2] if k > 1 else 1
    here = table[k][k] * before + table[k][k - 1] * table[k][k - 1]
    return 4 * here >= 3 * table[k - 1][k - 1] * table[k - 1][k - 1]


def right_angles(rows, scales):
    """How the rows stand to one another, once each has lost what lies along those before it.

    At k, k stands the product of the squares of the first k + 1 lengths that are left; at k, j, over what
    stands at j, j, how many times what is left of the row j lies in the row k. So all numbers are whole.
    """
    stretched = [[value * scale for value, scale in zip(row, scales)] for row in rows]
    table = [[0 for row in rows] for row in rows]
    for k in range(len(rows)):
        for j in range(k + 1):
            value = product(stretched[k], stretched[j])
            divisor = 1
            for i in range(j):
                value = (table[i][i] * value - table[k][i] * table[j][i]) // divisor
                divisor = table[i][i]
            table[k][j] = value
    return table
