"""Lots: ascending tuples of unlike numbers, shorter ones first."""

from itertools import combinations

from thincoins.checks import is_lot


def lots_of(many):
    """All lots of so many numbers, in order; that of none is the first."""
    return [lot for size in range(many + 1) for lot in combinations(range(many), size)]


def lies_within(lot, other):
    """Whether all numbers of the lot are in the other one."""
    return all([one in other for one in lot])


def is_part(value, points):
    """Whether it tells a part of a web of so many points."""
    return is_lot(value, points) and len(value) > 0
