"""The steps from names to their hull."""

from thincoins.besides import require_named, rows_beside


def first_heavy(book, web, names):
    """The first part that is heavy beside the names, or None."""
    for lot, weight in rows_beside(book, web, names):
        if weight < 0:
            return lot
    return None


def chain(book, web, names):
    """The steps to the hull: each the first part that is heavy beside the names and all ahead of it."""
    require_named(book, web, names)
    steps = []
    there = list(names)
    step = first_heavy(book, web, there)
    while step is not None:
        steps.append(step)
        there = [*there, *step]
        step = first_heavy(book, web, there)
    return tuple(steps)
