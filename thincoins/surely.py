"""From which m on a web is there, or is not there, with the chance that is asked for."""

from math import comb

from thincoins.books import LEAST_M, MOST_M
from thincoins.checks import is_ratio
from thincoins.errors import BadRatio, Impossible, TooMany
from thincoins.handings import comes
from thincoins.layings import turns
from thincoins.moments import mean, require_few_points, second
from thincoins.papers import Paper
from thincoins.polynomials import Polynomial, require_polynomial
from thincoins.powers import power_of
from thincoins.quotients import Quotient
from thincoins.required import require_book, require_fit, require_web


class SureFrom(Paper):
    """From this m on the chance of a laying is above the share."""

    def __init__(self, m):
        super().__init__("surefrom", m)
        self.m = self.parts[0]


class RareFrom(Paper):
    """From this m on the chance of a laying is below the share, as the part tells."""

    def __init__(self, m, part):
        super().__init__("rarefrom", m, part)
        self.m = self.parts[0]
        self.part = self.parts[1]


def is_right(number, place):
    """Whether this number of p(m + t) is not below 0; the first one must be above 0."""
    return number > 0 or (number == 0 and place > 0)


def first_wrong(numbers, m):
    """The place of the first number of p(m + t) that is not right, p having these numbers, or None."""
    row, by = [], 1
    for number in numbers:
        row.append(number * by)
        by *= m
    # The row is that of p(m t) now. Of p(m + m t) the numbers have the same signs, and sums are enough.
    for at in range(len(row)):
        for place in range(len(row) - 2, at - 1, -1):
            row[place] += row[place + 1]
        if not is_right(row[at], at):
            return at
    return None


def stays_above(polynomial, m):
    """Whether no number of p(m + t) is below 0, and the first one is above 0."""
    return polynomial.degree >= 0 and first_wrong(polynomial.numbers, m) is None


def beyond_roots(numbers):
    """An integer beyond all roots of the polynomial, so beyond those of all numbers of p(m + t)."""
    last = numbers[-1].bit_length()
    most = 0
    for back, number in enumerate(reversed(numbers)):
        if back > 0:
            most = max(most, -((last - 1 - number.bit_length()) // back))
    # A number that stands so many places ahead of the last one is below it by 2^most, so many times
    # as a factor. So from 2 times 2^most on all others together count less than the last one.
    return 2 * power_of(2, most)


def number_at(numbers, place):
    """The polynomial that tells at each m this number of p(m + t)."""
    return Polynomial([comb(at, place) * numbers[at] for at in range(place, len(numbers))])


def turning_point(polynomial, place, low, high):
    """An m at which this number of p(m + t) is right, but not at m - 1; it is not at low, and is at high."""
    while high - low > 1:
        middle = (low + high) // 2
        if is_right(polynomial(middle), place):
            high = middle
        else:
            low = middle
    return high


def above_from(polynomial):
    """The least m from 2 on at which all numbers of p(m + t) are right, or None."""
    require_polynomial(polynomial, "polynomial")
    numbers = polynomial.numbers
    if len(numbers) == 0 or numbers[-1] < 0:
        return None
    high = beyond_roots(numbers)
    m = LEAST_M
    wrong = first_wrong(numbers, m)
    # What is right at some m stays so, so no m up to one at which a number is wrong will do.
    while wrong is not None:
        m = turning_point(number_at(numbers, wrong), wrong, m, high)
        wrong = first_wrong(numbers, m)
    return m


def require_share(value, name):
    """A ratio above 0 and below 1."""
    if not is_ratio(value) or not 0 < value[0] < value[1]:
        raise BadRatio(name)


def require_shared(book, web, share):
    """A book, a web and a share, and that the one fits the other."""
    require_book(book, "book")
    require_web(web, "web")
    require_share(share, "share")
    require_fit(book, web)


def times(number, quotient):
    """The quotient, so many times, of whatever degree."""
    return Quotient(Polynomial([number * its for its in quotient.over.numbers]), quotient.power)


def sure_over(book, web, share):
    """The polynomial that is above 0 where the mean shows a chance above the share."""
    first = mean(book, web)
    return (times(share[1], first * first) - times(share[0], second(book, web))).over


def rare_over(book, web, part, share):
    """The polynomial that is above 0 where the mean of the part shows a chance below the share."""
    alone = web.part(part)
    least = Quotient(Polynomial([share[0] * turns(alone)]), 0)
    return (least - times(share[1], mean(book, alone))).over


def least_m(polynomial):
    """The least m by above_from, if it is not too great."""
    m = above_from(polynomial)
    if m > MOST_M:
        raise TooMany("m", MOST_M)
    return m


def sure_from(book, web, share):
    """The SureFrom with the least m of a web that comes."""
    require_shared(book, web, share)
    require_few_points(web)
    paper = comes(book, web)
    if paper.word != "comes":
        raise Impossible(paper)
    return SureFrom(least_m(sure_over(book, web, share)))


def rare_from(book, web, share):
    """The RareFrom with the least m of a rare web, and its heavy part."""
    require_shared(book, web, share)
    paper = comes(book, web)
    if paper.word != "rare":
        raise Impossible(paper)
    return RareFrom(least_m(rare_over(book, web, paper.part, share)), paper.part)
