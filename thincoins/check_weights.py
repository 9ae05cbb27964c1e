"""Whether a paper about a web coming is right."""

from thincoins.besides import point_rooms, tie_amounts
from thincoins.handed import is_handing
from thincoins.handings import Comes, OnBreak, Rare
from thincoins.lots import is_part
from thincoins.required import require_fitting
from thincoins.rests import lot_weight, part_weights


def shows_comes(book, web, value):
    """Whether the value is a right Comes, Rare or OnBreak of the web."""
    require_fitting(book, web)
    # The names tell those made by these very classes from those of a class below one of them.
    if isinstance(value, Comes) and value.__class__.__name__ == "Comes":
        return is_handing(value.handing, web.ties, tie_amounts(book, web, ()), point_rooms(book, web, ()))
    if isinstance(value, Rare) and value.__class__.__name__ == "Rare":
        return is_part(value.part, web.points) and lot_weight(book, web, value.part) < 0
    if isinstance(value, OnBreak) and value.__class__.__name__ == "OnBreak":
        return is_part(value.part, web.points) and is_break_part(book, web, value.part)
    return False


def is_break_part(book, web, part):
    """Whether the part is level, no part being heavy."""
    if lot_weight(book, web, part) != 0:
        return False
    return all([weight >= 0 for _, weight in part_weights(book, web)])
