"""Fractions: tuples of a numerator and a denominator, which is above 0."""

from wholeamounts.refusals import TooGreat, WrongNumbers

MOST_TOLD = 18446744073709551615


def common_divisor(a, b):
    """The greatest common divisor; that of 0 and a number is the number."""
    while b != 0:
        remainder = a % b
        a = b
        b = remainder
    return a


def lowest(numerator, denominator):
    """The fraction in lowest terms; a nought is 0 over 1."""
    divisor = common_divisor(numerator, denominator)
    return (numerator // divisor, denominator // divisor)


def is_below(fraction, other):
    return fraction[0] * other[1] < other[0] * fraction[1]


def minus(fraction, other):
    """A fraction less another one that is not above it."""
    return lowest(fraction[0] * other[1] - other[0] * fraction[1], fraction[1] * other[1])


def times(fraction, number):
    return lowest(fraction[0] * number, fraction[1])


def over(fraction, number):
    return lowest(fraction[0], fraction[1] * number)


def paired(numbers):
    """The fractions of a row that has two numbers for each."""
    if len(numbers) % 2 != 0:
        raise WrongNumbers()
    fractions = []
    for k in range(0, len(numbers), 2):
        if numbers[k + 1] == 0:
            raise WrongNumbers()
        fractions.append(lowest(numbers[k], numbers[k + 1]))
    return fractions


def refuse_above(most, numbers):
    for number in numbers:
        if number > most:
            raise TooGreat()


def least_ratio(fractions):
    """The least whole numbers that stand to one another as fractions above 0 in lowest terms do.

    All of the fractions are whole numbers of the greatest fraction of which they all are: its numerator is
    the greatest common divisor of theirs, its denominator the least common multiple of theirs.
    """
    numerator = 0
    denominator = 1
    for fraction in fractions:
        numerator = common_divisor(numerator, fraction[0])
        denominator *= fraction[1] // common_divisor(denominator, fraction[1])
    return [fraction[0] // numerator * (denominator // fraction[1]) for fraction in fractions]
