"""Placings of named points: how many there are, what lies beside each, and whether one lacks the web."""

from thincoins.books import LEAST_M
from thincoins.checks import lowest
from thincoins.numbered import require_number, require_points
from thincoins.overlaps import kind_counts, overlaps, rest_ties, sort_counts, thinness_of
from thincoins.papers import Paper
from thincoins.powers import falling_product, power_of
from thincoins.required import require_book, require_fit, require_web
from thincoins.stores import (
    bits_of_ties, coin_bits, filling_weights, require_small, rows_on_things, thing_rows, things_by_kind,
)

MOST_M = 1000


class Sums(Paper):
    """The mean and the pairs of the rest beside one placing."""

    def __init__(self, mean, pairs):
        super().__init__("sums", mean, pairs)
        self.mean = self.parts[0]
        self.pairs = self.parts[1]


def require_placing(book, web, names, m):
    """A book, a web, names of its points and an m; whether the one fits the other comes later."""
    require_book(book, "book")
    require_web(web, "web")
    require_points(names, web.points, "names")
    require_number(m, LEAST_M, MOST_M, "m")


def rest_points(web, names):
    """The points without a name."""
    return [point for point in range(web.points) if point not in names]


def many_ways(things, counts):
    """How many ways there are to lay so many points of each kind on unlike ones of so many things."""
    ways = 1
    for kind, many in enumerate(things):
        ways *= falling_product(many, counts[kind])
    return ways


def many_placings(book, web, names, m):
    """How many placings there are."""
    require_placing(book, web, names, m)
    require_fit(book, web)
    return many_ways(things_by_kind(book, m), kind_counts(web, names))


def sums(book, web, names, m):
    """The Sums of the rest."""
    if many_placings(book, web, names, m) == 0:
        return Sums((0, 1), (0, 1))
    named = kind_counts(web, names)
    rest = kind_counts(web, rest_points(web, names))
    left = [many - named[kind] for kind, many in enumerate(things_by_kind(book, m))]
    thinness = thinness_of(book, sort_counts(rest_ties(web, names)))
    total = 0
    for points, ties, many in overlaps(web, names):
        if any(ties):
            both = [2 * rest[kind] - shared for kind, shared in enumerate(points)]
            total += many * many_ways(left, both) * power_of(m, thinness_of(book, ties))
    return Sums(lowest(many_ways(left, rest), power_of(m, thinness)), lowest(total, power_of(m, 2 * thinness)))


def placing_wants(book, web, names, m):
    """What the layings of the rest want beside a placing, as tuples of the bits of coins; the same
    beside many placings is told once."""
    rows, bits = thing_rows(book, m), coin_bits(book, m)
    rest, ties = rest_points(web, names), rest_ties(web, names)
    found = {}
    for placing in rows_on_things(web, rows, names, ()):
        places = {point: placing[at] for at, point in enumerate(names)}
        wanted = {}
        for row in rows_on_things(web, rows, rest, placing):
            for at, point in enumerate(rest):
                places[point] = row[at]
            wanted[bits_of_ties(bits, ties, places)] = True
        found[tuple(sorted(wanted))] = True
    return list(found)


def lacks(filling, wanted):
    """Whether no laying is there whose coins, as bits, are wanted."""
    return not any([filling & bits == bits for bits in wanted])


def lack(book, web, names, m):
    """The chance that some placing lacks the web."""
    require_placing(book, web, names, m)
    require_fit(book, web)
    require_small(book, m)
    wants = placing_wants(book, web, names, m)
    weights, by = filling_weights(book, m)
    total = 0
    for filling, weight in enumerate(weights):
        if any([lacks(filling, wanted) for wanted in wants]):
            total += weight
    return lowest(total, by)
