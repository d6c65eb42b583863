"""Fractions: tuples of a numerator and a denominator, which is above 0."""


def common_divisor(a, b):
    """The greatest common divisor; that of 0 and a number is the number."""
    while b != 0:
        remainder = a % b
        a = b
        b = remainder
    return a


def lowest(numerator, denominator):
    """The fraction in lowest terms; a nought is 0 over 1."""
    divisor = common_divisor(numerator, denominator)
    return (numerator // divisor, denominator // divisor)
