"""The hull of names: what must come by luck, so that all else is everywhere round it."""

from thincoins.besides import require_named, rows_beside
from thincoins.papers import Paper
from thincoins.rests import least_lots


class Hull(Paper):
    """The hull, its weight beside the names, and the greatest lot with this weight."""

    def __init__(self, part, weight, greatest):
        super().__init__("hull", part, weight, greatest)
        self.part = self.parts[0]
        self.weight = self.parts[1]
        self.greatest = self.parts[2]


def hull(book, web, names):
    """The Hull of the names."""
    require_named(book, web, names)
    least, part, greatest = least_lots(rows_beside(book, web, names))
    return Hull(part, least, greatest)
