"""Fractions: (numerator, denominator) in lowest terms, the denominator above 0, the numerator not below."""


def lowest(numerator, denominator):
    common = denominator
    rest = numerator
    while rest != 0:
        smaller = common % rest
        common = rest
        rest = smaller
    return (numerator // common, denominator // common)


def is_less(one, other):
    # Without a division, so that it's exact however near they are.
    return one[0] * other[1] < other[0] * one[1]
