"""Ways counted, and fractions in lowest terms."""

from math import comb, gcd


def choose(many, few):
    """In how many ways few of many are chosen; 0 where many is below 0."""
    if many < 0:
        return 0
    return comb(many, few)


def product_of(numbers):
    product = 1
    for number in numbers:
        product *= number
    return product


def fraction(top, bottom):
    """The pair in lowest terms, for a bottom from 1 on."""
    common = gcd(top, bottom)
    return top // common, bottom // common


def power(base, times):
    return product_of([base] * times)
