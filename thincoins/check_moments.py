"""Whether a paper about an m from which on something holds is right."""

from thincoins.books import LEAST_M
from thincoins.checks import is_within
from thincoins.lots import is_part
from thincoins.moments import require_few_points
from thincoins.surely import RareFrom, SureFrom, rare_over, require_shared, stays_above, sure_over


def shows_from(book, web, share, value):
    """Whether the value is a right SureFrom or RareFrom of the web."""
    require_shared(book, web, share)
    if isinstance(value, SureFrom) and value.__class__.__name__ == "SureFrom":
        require_few_points(web)
        return is_within(value.m, LEAST_M, None) and stays_above(sure_over(book, web, share), value.m)
    if isinstance(value, RareFrom) and value.__class__.__name__ == "RareFrom":
        if not is_within(value.m, LEAST_M, None) or not is_part(value.part, web.points):
            return False
        return stays_above(rare_over(book, web, value.part, share), value.m)
    return False
