"""Fractions as tuples of a numerator and a positive denominator."""


def common_divisor(first, second):
    while second > 0:
        rest = first % second
        first = second
        second = rest
    return first


def lowest_terms(numerator, denominator):
    divisor = common_divisor(numerator, denominator)
    return (numerator // divisor, denominator // divisor)


def plus(first, second):
    return lowest_terms(first[0] * second[1] + second[0] * first[1], first[1] * second[1])


def minus(first, second):
    return lowest_terms(first[0] * second[1] - second[0] * first[1], first[1] * second[1])


def total(ratios):
    found = (0, 1)
    for ratio in ratios:
        found = plus(found, ratio)
    return found


def is_less(first, second):
    return first[0] * second[1] < second[0] * first[1]


def multiplied(first, second):
    return lowest_terms(first[0] * second[0], first[1] * second[1])


def times(ratio, number):
    return lowest_terms(ratio[0] * number, ratio[1])


def divided(ratio, divisor):
    """The first fraction divided by the second, which is greater than 0."""
    return lowest_terms(ratio[0] * divisor[1], ratio[1] * divisor[0])
