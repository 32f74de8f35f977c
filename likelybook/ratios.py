"""Integers, and fractions: pairs (n, d) of integers, d from 1 on, without a common divisor."""

from math import gcd, lcm


def is_integer(value):
    """Whether any value is an integer, which True and False are not."""
    return isinstance(value, int) and not isinstance(value, bool)


def is_fraction(value):
    """Whether any value is a fraction."""
    if not isinstance(value, tuple) or len(value) != 2:
        return False
    above, below = value
    if not is_integer(above) or not is_integer(below):
        return False
    return below >= 1 and gcd(above, below) == 1


def fraction(above, below):
    """The fraction of two integers, the second one from 1 on."""
    shared = gcd(above, below)
    return (above // shared, below // shared)


def is_below(part, other):
    """Whether a fraction is less than another one."""
    return part[0] * other[1] < other[0] * part[1]


def common_multiple(numbers):
    """The least common multiple of integers from 1 on."""
    whole = 1
    for number in numbers:
        whole = lcm(whole, number)
    return whole


def over_whole(fractions):
    """Fractions as a pair: a list of integers, and the one number that they all stand over."""
    whole = common_multiple([below for above, below in fractions])
    return [above * (whole // below) for above, below in fractions], whole


def shortened(numbers):
    """A list of integers, each divided by the greatest common divisor of all."""
    shared = 0
    for number in numbers:
        shared = gcd(shared, number)
    # They have the common divisor 0 if all of them are 0.
    return [number // shared for number in numbers] if shared else numbers
