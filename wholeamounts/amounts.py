"""What runs out, what's left and what's made of given amounts; what's wanted for an amount."""

from wholeamounts.refusals import WrongNumbers
from wholeamounts.terms import is_below, minus, over, times


def most_row(equation, numbers, amounts):
    """How far it goes, which runs out, what's left of each on the left, what's made of each on the right."""
    count = len(equation.left)
    if len(amounts) != count:
        raise WrongNumbers()
    reaches = [over(amount, number) for amount, number in zip(amounts, numbers)]
    out = first_least(reaches)
    far = reaches[out]
    left = [minus(amount, times(far, number)) for amount, number in zip(amounts, numbers)]
    made = [times(far, number) for number in numbers[count:]]
    return [far, (out, 1)] + left + made


def first_least(fractions):
    """Where the first of the least fractions stands."""
    least = 0
    for k, fraction in enumerate(fractions):
        if is_below(fraction, fractions[least]):
            least = k
    return least


def want_row(equation, numbers, j, amount):
    """Of each molecule, what's wanted for so much of the j-th on the right."""
    if j >= len(equation.right):
        raise WrongNumbers()
    far = over(amount, numbers[len(equation.left) + j])
    return [times(far, number) for number in numbers]
