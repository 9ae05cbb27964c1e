"""Bounds for the chance that some placing lacks a web, for every m."""

from thincoins.checks import compared, is_ratio, lowest
from thincoins.errors import BadRatio
from thincoins.numbered import require_number
from thincoins.papers import Denial, Paper
from thincoins.placings import many_placings, require_placing, sums
from thincoins.required import require_fit
from thincoins.surely import require_share

MOST_TERMS = 20


class Below(Paper):
    """With so many terms the bound is below the share."""

    def __init__(self, terms, bound):
        super().__init__("below", terms, bound)
        self.terms = self.parts[0]
        self.bound = self.parts[1]


class NotBelow(Denial):
    """With all terms that can be the bound is not below the share."""

    def __init__(self, bound):
        super().__init__("notbelow", bound)
        self.bound = self.parts[0]


def tail(x, terms):
    """1 by the beginning of the series of exp(x) with so many terms behind the first one."""
    if not is_ratio(x) or x[0] < 0:
        raise BadRatio("x")
    require_number(terms, 0, MOST_TERMS, "terms")
    number, by = x
    # over / below is the sum, power the power of number that stands in the last term of over.
    over, below, power = 1, 1, 1
    for term in range(1, terms + 1):
        power *= number
        over = over * by * term + power
        below = below * by * term
    return lowest(below, over)


def bound_of(many, told, terms):
    """The bound for so many placings, with these Sums of the rest."""
    if many == 0:
        return (0, 1)
    if told.mean[0] == 0:
        return (1, 1)
    # Where the mean is above 0 the pairs are 0 for a rest without ties alone.
    if told.pairs[0] == 0:
        return (0, 1)
    x = lowest(told.mean[0] * told.mean[0] * told.pairs[1], told.mean[1] * told.mean[1] * told.pairs[0])
    number, by = tail(x, terms)
    return lowest(min(many * number, by), by)


def lacks_at_most(book, web, names, m, terms):
    """A ratio that the chance of some placing lacking the web is not above."""
    require_placing(book, web, names, m)
    require_number(terms, 0, MOST_TERMS, "terms")
    require_fit(book, web)
    return bound_of(many_placings(book, web, names, m), sums(book, web, names, m), terms)


def require_terms_for(book, web, names, m, share):
    """A book, a web, names of its points, an m and a share, and that the one fits the other."""
    require_placing(book, web, names, m)
    require_share(share, "share")
    require_fit(book, web)


def terms_for(book, web, names, m, share):
    """The Below with the fewest terms, or the NotBelow."""
    require_terms_for(book, web, names, m, share)
    many, told = many_placings(book, web, names, m), sums(book, web, names, m)
    bound = (1, 1)
    for terms in range(MOST_TERMS + 1):
        bound = bound_of(many, told, terms)
        if compared(bound, share) < 0:
            return Below(terms, bound)
    return NotBelow(bound)
