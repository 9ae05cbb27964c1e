"""Whether a paper about turned dials is right."""

from thincoins.checks import is_ratio
from thincoins.dials import Any, Barred, Dial, dial
from thincoins.lots import is_part
from thincoins.polygons import Polygon, polygon
from thincoins.rests import rest_of
from thincoins.same import are_same_numbers


def shows_dial(book, web, sort, value):
    """Whether the value is a right Dial, Any or Barred of the web."""
    right = dial(book, web, sort)
    if isinstance(value, Barred) and value.__class__.__name__ == "Barred":
        return bars(book, web, value.part, (sort,))
    if isinstance(value, Any) and value.__class__.__name__ == "Any":
        return right.word == "any"
    if isinstance(value, Dial) and value.__class__.__name__ == "Dial":
        return right.word == "dial" and is_right_dial(book, web, sort, value, right.ratio)
    return False


def is_right_dial(book, web, sort, value, ratio):
    """Whether the Dial has this ratio, and a part that is level there."""
    if not is_ratio(value.ratio) or value.ratio != ratio or not is_part(value.part, web.points):
        return False
    rest, counts = rest_of(book, web, value.part, (sort,))
    return rest * ratio[1] == counts[0] * ratio[0]


def shows_polygon(book, web, sort, other, value):
    """Whether the value is the Polygon of the web or a right Barred."""
    right = polygon(book, web, sort, other)
    if isinstance(value, Barred) and value.__class__.__name__ == "Barred":
        return bars(book, web, value.part, (sort, other))
    if isinstance(value, Polygon) and value.__class__.__name__ == "Polygon":
        return right.word == "polygon" and are_same_numbers(value.parts, right.parts)
    return False


def bars(book, web, part, turned):
    """Whether any value tells a barring part, these sorts being turned."""
    return is_part(part, web.points) and rest_of(book, web, part, turned)[0] <= 0
