"""Whether a web is everywhere round each choice of named things."""

from thincoins.besides import point_rooms, require_named, rows_beside, tie_amounts, weight_beside
from thincoins.errors import Misfit
from thincoins.handed import handing_of
from thincoins.numbered import require_points
from thincoins.papers import Denial, Paper
from thincoins.required import require_book, require_fit, require_web
from thincoins.rests import least_lots


class Everywhere(Paper):
    """The web is everywhere round the names: a handing beside them."""

    def __init__(self, handing):
        super().__init__("everywhere", handing)
        self.handing = self.parts[0]


class Seldom(Denial):
    """The web is seldom round the names: a part that is heavy beside them."""

    def __init__(self, part):
        super().__init__("seldom", part)
        self.part = self.parts[0]


class NamesBreak(Denial):
    """The web is on a break round the names: a part that is level beside them, none being heavy."""

    def __init__(self, part):
        super().__init__("namesbreak", part)
        self.part = self.parts[0]


def bare(web, names):
    """The web without the ties between names."""
    require_web(web, "web")
    require_points(names, web.points, "names")
    return web.without_ties(web.tie_numbers(names))


def beside(book, web, names, part):
    """The weight beside the names of some points without a name."""
    require_book(book, "book")
    require_web(web, "web")
    require_points(names, web.points, "names")
    require_points(part, web.points, "part")
    require_fit(book, web)
    if any([point in names for point in part]):
        raise Misfit("part")
    return weight_beside(book, web, names, part)


def everywhere(book, web, names):
    """The Everywhere with a handing, the Seldom of the least part of least weight, or the NamesBreak
    of the first level part."""
    require_named(book, web, names)
    rows = rows_beside(book, web, names)
    least, part, _ = least_lots(rows)
    if least < 0:
        return Seldom(part)
    level = [lot for lot, weight in rows if weight == 0 and len(lot) > 0]
    if len(level) > 0:
        return NamesBreak(level[0])
    return Everywhere(handing_of(web.ties, tie_amounts(book, web, names), point_rooms(book, web, names)))
