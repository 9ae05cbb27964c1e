"""Whether a web comes, is rare, or is on a break, with what shows it."""

from thincoins.besides import point_rooms, tie_amounts
from thincoins.handed import handing_of
from thincoins.papers import Denial, Paper
from thincoins.required import require_fitting
from thincoins.rests import part_weights
from thincoins.weights import least_parts


class Comes(Paper):
    """The web comes: a handing, a pair for each tie."""

    def __init__(self, handing):
        super().__init__("comes", handing)
        self.handing = self.parts[0]


class Rare(Denial):
    """The web is rare: a heavy part."""

    def __init__(self, part):
        super().__init__("rare", part)
        self.part = self.parts[0]


class OnBreak(Denial):
    """The web is on a break: a level part, no part being heavy."""

    def __init__(self, part):
        super().__init__("onbreak", part)
        self.part = self.parts[0]


def comes(book, web):
    """The Comes with a handing, the Rare of the least part of least weight, or the OnBreak of the
    first level part."""
    require_fitting(book, web)
    least, part, _ = least_parts(book, web)
    if least < 0:
        return Rare(part)
    level = [row[0] for row in part_weights(book, web) if row[1] == 0]
    if len(level) > 0:
        return OnBreak(level[0])
    return Comes(handing_of(web.ties, tie_amounts(book, web, ()), point_rooms(book, web, ())))
