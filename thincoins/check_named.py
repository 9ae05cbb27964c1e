"""Whether a paper about names of a web is right."""

from thincoins.besides import point_rooms, require_named, rows_beside, tie_amounts, weight_beside
from thincoins.handed import is_handing
from thincoins.hulls import Hull, hull
from thincoins.lots import is_part
from thincoins.named import Everywhere, NamesBreak, Seldom
from thincoins.same import are_same_numbers


def shows_everywhere(book, web, names, value):
    """Whether the value is a right Everywhere, Seldom or NamesBreak of the web round these names."""
    require_named(book, web, names)
    if isinstance(value, Everywhere) and value.__class__.__name__ == "Everywhere":
        amounts, rooms = tie_amounts(book, web, names), point_rooms(book, web, names)
        return is_handing(value.handing, web.ties, amounts, rooms)
    if isinstance(value, Seldom) and value.__class__.__name__ == "Seldom":
        return is_part_beside(web, names, value.part) and weight_beside(book, web, names, value.part) < 0
    if isinstance(value, NamesBreak) and value.__class__.__name__ == "NamesBreak":
        return is_part_beside(web, names, value.part) and is_break_beside(book, web, names, value.part)
    return False


def is_part_beside(web, names, value):
    """Whether any value tells a part of points without a name."""
    return is_part(value, web.points) and not any([point in names for point in value])


def is_break_beside(book, web, names, part):
    """Whether the part is level beside the names, none being heavy."""
    if weight_beside(book, web, names, part) != 0:
        return False
    return all([row[1] >= 0 for row in rows_beside(book, web, names)])


def shows_hull(book, web, names, value):
    """Whether the value is the Hull of these names."""
    right = hull(book, web, names)
    if isinstance(value, Hull) and value.__class__.__name__ == "Hull":
        return are_same_numbers(value.parts, right.parts)
    return False
