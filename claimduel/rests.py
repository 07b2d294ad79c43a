"""Divisors, multiples and rests, for integers of any size."""

from math import gcd

from claimduel.checks import are_integers, is_within, need_number
from claimduel.errors import BadNumber


def need_numbers_from_1(numbers):
    if not are_integers(numbers) or len(numbers) == 0 or min(numbers) < 1:
        raise BadNumber("numbers")


def need_rest(value, part):
    """BadNumber for what is no pair (rest, m)."""
    if not are_integers(value) or len(value) != 2:
        raise BadNumber(part)
    if value[1] < 1 or not is_within(value[0], 0, value[1] - 1):
        raise BadNumber(part)


def common_of(numbers):
    """The greatest common divisor of any integers, 0 for none."""
    common = 0
    for number in numbers:
        common = gcd(common, number)
    return common


def multiple_of(numbers):
    """The least common multiple of integers from 1 on, 1 for none."""
    multiple = 1
    for number in numbers:
        multiple = multiple // gcd(multiple, number) * number
    return multiple


def inverse_of(number, m):
    """What number has to be taken times to leave 1 by m; they have no common divisor."""
    high, low = number % m, m
    found, ahead = 1, 0
    while low != 0:
        times_in = high // low
        high, low = low, high - times_in * low
        found, ahead = ahead, found - times_in * ahead
    return found % m


def least_root(factor, number, m):
    """As root_of, for arguments that are known to be right."""
    common = gcd(factor, m)
    if number % common != 0:
        return None
    less = m // common
    return -(number // common) * inverse_of(factor // common, less) % less


def rest_of_both(one, other):
    """As both_rests, for arguments that are known to be right."""
    rest, m = one
    steps = least_root(m, rest - other[0], other[1])
    if steps is None:
        return None
    return (rest + steps * m, multiple_of([m, other[1]]))


def gcd_of(numbers):
    need_numbers_from_1(numbers)
    return common_of(numbers)


def lcm_of(numbers):
    need_numbers_from_1(numbers)
    return multiple_of(numbers)


def rest_of(number, m):
    need_number(number, "number")
    need_number(m, "m", 1)
    return number % m


def root_of(factor, number, m):
    need_number(factor, "factor")
    need_number(number, "number")
    need_number(m, "m", 1)
    return least_root(factor, number, m)


def both_rests(one, other):
    need_rest(one, "one")
    need_rest(other, "other")
    return rest_of_both(one, other)
