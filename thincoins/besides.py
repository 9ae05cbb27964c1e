"""What points weigh beside the names, and what ties hand out to points without a name."""

from thincoins.lots import lots_of
from thincoins.numbered import require_points
from thincoins.required import require_book, require_fit, require_web
from thincoins.rests import lot_weight


def require_named(book, web, names):
    """A book, a web and some names of its points, and that the one fits the other."""
    require_book(book, "book")
    require_web(web, "web")
    require_points(names, web.points, "names")
    require_fit(book, web)


def weight_beside(book, web, names, lot):
    """The weight beside the names of points without a name."""
    # Sizes of names and ties between them are in both weights.
    return lot_weight(book, web, [*names, *lot]) - lot_weight(book, web, names)


def rows_beside(book, web, names):
    """The pair (lot, weight beside the names) of each lot of points without a name, in order."""
    free = [point for point in range(web.points) if point not in names]
    lots = [tuple([free[at] for at in lot]) for lot in lots_of(len(free))]
    return [(lot, weight_beside(book, web, names, lot)) for lot in lots]


def tie_amounts(book, web, names):
    """What each tie must hand out in a handing beside the names: nothing between two of them."""
    free = web.points - len(names)
    amounts = []
    for point, other, sort in web.ties:
        amounts.append(0 if point in names and other in names else free * book.sorts[sort][2])
    return amounts


def point_rooms(book, web, names):
    """What each point may get at most in a handing beside the names."""
    free = web.points - len(names)
    return [0 if point in names else free * book.sizes[kind] - 1 for point, kind in enumerate(web.kinds)]
