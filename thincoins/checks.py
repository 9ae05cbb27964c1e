"""What plain values are: integers, names, ratios and lots."""

from math import gcd

from thincoins.errors import BadNumber, BadRatio

LETTERS = "abcdefghijklmnopqrstuvwxyz"
DIGITS = "0123456789"
MOST_IN_NAME = 12


def is_integer(value):
    """Whether it is an integer; True and False are none."""
    return isinstance(value, int) and not isinstance(value, bool)


def is_within(value, least, most):
    """Whether it is an integer from least to most; None is no bound."""
    if not is_integer(value):
        return False
    return (least is None or least <= value) and (most is None or value <= most)


def is_name(value):
    """Whether it is a string that can name a web at a desk."""
    if not isinstance(value, str) or not 1 <= len(value) <= MOST_IN_NAME:
        return False
    return value[0] in LETTERS and all([char in LETTERS or char in DIGITS for char in value])


def is_list(value):
    """Whether it is a list or a tuple, which may be passed for one another."""
    return isinstance(value, (list, tuple))


def are_integers(value):
    """Whether it is a list or tuple of integers."""
    return is_list(value) and all([is_integer(one) for one in value])


def is_ratio(value):
    """Whether it is a pair of integers that tells a ratio in lowest terms."""
    if not are_integers(value) or len(value) != 2:
        return False
    return value[1] > 0 and gcd(value[0], value[1]) == 1


def is_lot(value, many):
    """Whether it is an ascending list of unlike integers from 0 to one less than many."""
    if not are_integers(value):
        return False
    if not all([0 <= one < many for one in value]):
        return False
    return all([value[at - 1] < value[at] for at in range(1, len(value))])


def first_twice(values):
    """The first of the integers or strings that equals one ahead of it, or None."""
    seen = {}
    for value in values:
        if value in seen:
            return value
        seen[value] = True
    return None


def common_divisor(values):
    """The greatest integer that divides all; 0 if all are 0 or there is none."""
    if not are_integers(values):
        raise BadNumber("values")
    divisor = 0
    for value in values:
        divisor = gcd(divisor, value)
    return divisor


def lowest(number, by):
    """The ratio number / by, in lowest terms."""
    if not is_integer(number):
        raise BadNumber("number")
    if not is_integer(by) or by == 0:
        raise BadNumber("by")
    divisor = gcd(number, by)
    if by < 0:
        divisor = -divisor
    return (number // divisor, by // divisor)


def compared(one, other):
    """-1, 0 or 1, as the ratio one is below, equal to or above other."""
    if not is_ratio(one):
        raise BadRatio("one")
    if not is_ratio(other):
        raise BadRatio("other")
    left = one[0] * other[1]
    right = other[0] * one[1]
    if left == right:
        return 0
    return -1 if left < right else 1
