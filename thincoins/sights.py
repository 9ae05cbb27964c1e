"""Sights and views: what things of a town are to one another and to third things."""

from thincoins.looking import SAME


def tied_rows(things, ties):
    """For each thing a list that tells for each thing, by 0 and 1, whether the two are tied."""
    rows = [[0] * things for _ in range(things)]
    for one, other in ties:
        rows[one][other] = 1
        rows[other][one] = 1
    return rows


def sight_of(rows, one, other):
    """The sight of the one thing on the other one."""
    thirds = [third for third in range(len(rows)) if third not in (one, other)]
    numbers = [2 * rows[one][third] + rows[other][third] for third in thirds]
    return (rows[one][other], tuple(sorted(set(numbers))))


def views_of(things, ties):
    """The views of a town of so many things with these ties."""
    rows = tied_rows(things, ties)
    views = []
    for one in range(things):
        sights = [sight_of(rows, one, other) for other in range(things) if other != one]
        views.append(tuple(sorted(set(sights))))
    return tuple(sorted(set(views)))


def things_by_views(views):
    """The things that can be placed first, as pairs (row, things behind it), three looks deep."""
    return [((), things_by_view(view)) for view in views]


def things_by_view(view):
    """The things that can be placed behind a first one with this view."""
    here = [((SAME, SAME), ())] + [((tied, tied), ()) for tied, _ in view]
    return [((SAME,), here)] + [((tied,), thirds_by_sight(tied, thirds)) for tied, thirds in view]


def thirds_by_sight(tied, thirds):
    """The things that can be placed behind two unlike ones, the first of which has this sight."""
    both = [((SAME, tied), ()), ((tied, SAME), ())]
    # A third's number is 2 if it is tied to the first one, and 1 if it is tied to the second one, added up.
    return both + [((number // 2, number % 2), ()) for number in thirds]
