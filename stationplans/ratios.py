"""Exact fractions: pairs of a numerator and a positive denominator, in lowest terms."""


def ratio(num, den):
    """The fraction num / den; den is greater than 0."""
    divisor = greatest_divisor(num, den)
    return (num // divisor, den // divisor)


def greatest_divisor(first, second):
    """The greatest common divisor; second is greater than 0."""
    while second != 0:
        rest = first % second
        first = second
        second = rest
    return first


def whole(number):
    """A whole number as a fraction."""
    return (number, 1)


def plus(one, other):
    """The sum of two fractions."""
    return ratio(one[0] * other[1] + other[0] * one[1], one[1] * other[1])


def minus(one, other):
    """The first fraction less the second one."""
    return ratio(one[0] * other[1] - other[0] * one[1], one[1] * other[1])


def times(one, other):
    """The product of two fractions."""
    return ratio(one[0] * other[0], one[1] * other[1])


def over(one, other):
    """The first fraction divided by the second one, which is greater than 0."""
    return ratio(one[0] * other[1], one[1] * other[0])


def less(one, other):
    """Whether the first fraction is less than the second one."""
    return one[0] * other[1] < other[0] * one[1]
