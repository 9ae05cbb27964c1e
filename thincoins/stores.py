"""Small stores: their things and coins one by one, and all their fillings."""

from thincoins.errors import TooMany
from thincoins.powers import power_of

MOST_THINGS = 8
MOST_COINS = 10


def things_by_kind(book, m):
    """How many things of each kind there are."""
    return [book.things_at(kind, m) for kind in range(len(book.sizes))]


def many_coins(book, m):
    """How many coins a filling has."""
    things = things_by_kind(book, m)
    total = 0
    for kind, other, _ in book.sorts:
        total += things[kind] * (things[kind] - 1) // 2 if kind == other else things[kind] * things[other]
    return total


def require_small(book, m):
    """Few enough things, then few enough coins."""
    if sum(things_by_kind(book, m)) > MOST_THINGS:
        raise TooMany("things", MOST_THINGS)
    if many_coins(book, m) > MOST_COINS:
        raise TooMany("coins", MOST_COINS)


def thing_rows(book, m):
    """The numbers of the things of each kind, one kind behind the other."""
    rows, first = [], 0
    for many in things_by_kind(book, m):
        rows.append(list(range(first, first + many)))
        first += many
    return rows


def coins_of(book, m):
    """All coins, as triples (lower thing, other thing, sort)."""
    rows = thing_rows(book, m)
    coins = []
    for sort, (kind, other, _) in enumerate(book.sorts):
        # The things of the lower kind have the lower numbers; of one kind each pair is met twice.
        coins.extend([(one, two, sort) for one in rows[kind] for two in rows[other] if one < two])
    return coins


def filling_weights(book, m):
    """The pair (weights, by): each filling has its weight by this number as its chance; the fillings
    are told by the bits of their numbers, a bit for each of the coins."""
    weights, by = [1], 1
    for coin in coins_of(book, m):
        sides = power_of(m, book.sorts[coin[2]][2])
        weights = [weight * (sides - 1) for weight in weights] + weights
        by *= sides
    return (weights, by)


def rows_on_things(web, rows, points, taken):
    """All ways to lay the points on unlike things of their kinds, none of which is taken."""
    found = [()]
    for point in points:
        free = [thing for thing in rows[web.kinds[point]] if thing not in taken]
        found = [row + (thing,) for row in found for thing in free if thing not in row]
    return found


def coin_bits(book, m):
    """The bit of each coin."""
    bits, bit = {}, 1
    for coin in coins_of(book, m):
        bits[coin] = bit
        bit *= 2
    return bits


def bits_of_ties(bits, ties, places):
    """The bits of the coins on which the ties lie, each point being laid on its place."""
    wanted = 0
    for point, other, sort in ties:
        one, two = places[point], places[other]
        wanted += bits[(min(one, two), max(one, two), sort)]
    return wanted
