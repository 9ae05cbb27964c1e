"""All fillings of a small store: how many layings they have, and with which chances."""

from thincoins.books import LEAST_M, MOST_M
from thincoins.checks import lowest
from thincoins.moments import require_at
from thincoins.numbered import require_number
from thincoins.required import require_book
from thincoins.stores import (
    bits_of_ties, coin_bits, filling_weights, many_coins, require_small, rows_on_things, thing_rows,
)


def coins(book, m):
    """How many coins a filling has."""
    require_book(book, "book")
    require_number(m, LEAST_M, MOST_M, "m")
    return many_coins(book, m)


def wanted_bits(book, web, m):
    """How many layings want just these coins, by the bits of the coins."""
    bits = coin_bits(book, m)
    counted = {}
    for row in rows_on_things(web, thing_rows(book, m), list(range(web.points)), ()):
        wanted = bits_of_ties(bits, web.ties, row)
        counted[wanted] = counted.get(wanted, 0) + 1
    return counted


def spread(book, web, m):
    """The pairs (number, chance): how many layings a filling has, ascending."""
    require_at(book, web, m)
    require_small(book, m)
    counted = wanted_bits(book, web, m)
    weights, by = filling_weights(book, m)
    found = {}
    for filling, weight in enumerate(weights):
        number = sum([many for wanted, many in counted.items() if wanted & filling == wanted])
        found[number] = found.get(number, 0) + weight
    return tuple([(number, lowest(found[number], by)) for number in sorted(found)])


def chance(book, web, m):
    """The chance that a filling has a laying."""
    rows = spread(book, web, m)
    number, (over, by) = rows[0]
    return lowest(by - over, by) if number == 0 else (1, 1)
