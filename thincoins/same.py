"""Whether any value tells just the numbers of another one."""

from thincoins.checks import is_integer


def are_same_numbers(value, right):
    """Whether any value has just these tuples of integers, with integers for integers."""
    if is_integer(right):
        return is_integer(value) and value == right
    if not isinstance(value, tuple) or len(value) != len(right):
        return False
    return all([are_same_numbers(one, two) for one, two in zip(value, right)])
