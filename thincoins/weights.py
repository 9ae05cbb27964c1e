"""The weight of points of a web, and the lots with the least weight."""

from thincoins.numbered import require_points
from thincoins.required import require_book, require_fit, require_fitting, require_web
from thincoins.rests import least_lots, lot_weight, part_weights


def weight(book, web, part=None):
    """The weight of these points, of all for None."""
    require_book(book, "book")
    require_web(web, "web")
    if part is not None:
        require_points(part, web.points, "part")
    require_fit(book, web)
    return lot_weight(book, web, list(range(web.points)) if part is None else part)


def least_parts(book, web):
    """The least weight of all lots of points, and the least and the greatest lot that has it."""
    require_fitting(book, web)
    return least_lots([((), 0)] + part_weights(book, web))
