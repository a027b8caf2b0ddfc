"""Exact fractions: tuples of a numerator and a positive denominator, in lowest terms."""


def common_divisor(first, second):
    """The greatest common divisor of two whole numbers of which none is negative."""
    while second != 0:
        rest = first % second
        first = second
        second = rest
    return first


def ratio(num, den):
    """The fraction num / den in lowest terms; den is positive."""
    divisor = common_divisor(abs(num), den)
    return (num // divisor, den // divisor)


def plus(first, second):
    return ratio(first[0] * second[1] + second[0] * first[1], first[1] * second[1])


def minus(first, second):
    return ratio(first[0] * second[1] - second[0] * first[1], first[1] * second[1])


def times(first, second):
    return ratio(first[0] * second[0], first[1] * second[1])


def quotient(first, second):
    """The first divided by the second, which is above 0."""
    return ratio(first[0] * second[1], first[1] * second[0])


def total(fractions):
    """The sum of the fractions; 0 if there are none."""
    whole = (0, 1)
    for fraction in fractions:
        whole = plus(whole, fraction)
    return whole


def power(base, exponent):
    """The base multiplied with itself; 1 for the exponent 0, even if the base is 0."""
    product = (1, 1)
    for step in range(exponent):
        product = times(product, base)
    return product


def at_most(first, second):
    return first[0] * second[1] <= second[0] * first[1]
