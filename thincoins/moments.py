"""The mean number of layings, the mean of its square, and bounds of chances by them, for every m."""

from thincoins.books import LEAST_M, MOST_M
from thincoins.checks import compared, lowest
from thincoins.errors import TooMany
from thincoins.layings import parts, turns
from thincoins.numbered import require_number
from thincoins.overlaps import kind_counts, overlaps, sort_counts, thinness_of
from thincoins.polynomials import Polynomial, sum_row
from thincoins.quotients import Quotient
from thincoins.required import require_book, require_fit, require_fitting, require_web

MOST_POINTS = 5


def require_few_points(web):
    """Few enough points to go through all sharings."""
    if web.points > MOST_POINTS:
        raise TooMany("points", MOST_POINTS)


def require_at(book, web, m):
    """A book, a web and an m, and that the one fits the other."""
    require_book(book, "book")
    require_web(web, "web")
    require_number(m, LEAST_M, MOST_M, "m")
    require_fit(book, web)


def sharings(web):
    """The triples (points, ties, many): many sharings share so many points of each kind and ties of
    each sort."""
    require_web(web, "web")
    require_few_points(web)
    return tuple(overlaps(web, ()))


def layings_over(book, counts):
    """The polynomial that tells how many ways there are to lay so many points of each kind."""
    found = Polynomial([1])
    for kind, count in enumerate(counts):
        if count > 0:
            found = found * Polynomial.falling(book.sizes[kind], count)
    return found


def mean(book, web):
    """The mean number of layings in a filling."""
    require_fitting(book, web)
    counts = kind_counts(web, list(range(web.points)))
    return Quotient(layings_over(book, counts), thinness_of(book, sort_counts(web.ties)))


def second(book, web):
    """The mean of the square of the number of layings in a filling."""
    require_fitting(book, web)
    require_few_points(web)
    counts = kind_counts(web, list(range(web.points)))
    total = []
    known = {}
    for points, ties, many in overlaps(web, ()):
        if points not in known:
            both = [2 * counts[kind] - shared for kind, shared in enumerate(points)]
            known[points] = layings_over(book, both).numbers
        # A shared tie is thrown for once, so its thinness comes back from the common power.
        row = [0] * thinness_of(book, ties) + [many * number for number in known[points]]
        total = sum_row(total, row)
    return Quotient(Polynomial(total), 2 * thinness_of(book, sort_counts(web.ties)))


def at_least(book, web, m):
    """A ratio that the chance of a laying is not below."""
    require_at(book, web, m)
    require_few_points(web)
    first = mean(book, web).at(m)
    if first[0] == 0:
        return (0, 1)
    square = second(book, web).at(m)
    return lowest(first[0] * first[0] * square[1], first[1] * first[1] * square[0])


def at_most(book, web, m):
    """A ratio that the chance of a laying is not above."""
    require_at(book, web, m)
    least = (1, 1)
    for part in parts(web):
        alone = web.part(part)
        number, by = mean(book, alone).at(m)
        told = lowest(number, by * turns(alone))
        if compared(told, least) < 0:
            least = told
    return least
