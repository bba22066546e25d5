"""Fractions as tuples of a numerator and a positive denominator."""


def common_divisor(first, second):
    while second > 0:
        rest = first % second
        first = second
        second = rest
    return first


def lowest_terms(numerator, denominator):
    divisor = common_divisor(numerator, denominator)
    return (numerator // divisor, denominator // divisor)


def times(ratio, number):
    return lowest_terms(ratio[0] * number, ratio[1])


def divided(ratio, divisor):
    """The first fraction divided by the second, which is greater than 0."""
    return lowest_terms(ratio[0] * divisor[1], ratio[1] * divisor[0])
