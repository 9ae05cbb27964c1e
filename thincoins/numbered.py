"""Numbers of points, ties, sorts and kinds as they are passed, and what is raised for others."""

from thincoins.checks import first_twice, is_list, is_within
from thincoins.errors import BadLot, BadNumber, NoKind, NoPoint, NoSort, NoTie, Twice


def require_number(value, least, most, name):
    """An integer from least to most."""
    if not is_within(value, least, most):
        raise BadNumber(name)


def require_kind(value, many):
    """A kind, of so many."""
    if not is_within(value, 0, many - 1):
        raise NoKind(value)


def require_sort(value, many):
    """A sort, of so many."""
    if not is_within(value, 0, many - 1):
        raise NoSort(value)


def require_point(value, many):
    """A point, of so many."""
    if not is_within(value, 0, many - 1):
        raise NoPoint(value)


def require_tie(value, many):
    """The number of a tie, of so many."""
    if not is_within(value, 0, many - 1):
        raise NoTie(value)


def require_list(value, name):
    """A list or a tuple."""
    if not is_list(value):
        raise BadLot(name)


def require_unlike(values):
    """No two of the integers are equal."""
    twice = first_twice(values)
    if twice is not None:
        raise Twice(twice)


def require_points(values, many, name):
    """A list of unlike points, of so many, in any order."""
    require_list(values, name)
    for value in values:
        require_point(value, many)
    require_unlike(values)


def require_ties(values, many, name):
    """A list of unlike numbers of ties, of so many, in any order."""
    require_list(values, name)
    for value in values:
        require_tie(value, many)
    require_unlike(values)
