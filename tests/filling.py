"""Small stores told thing by thing and coin by coin, as plainly as can be."""

import itertools
import random
from fractions import Fraction

from tests.making import made_book, made_web
from thincoins.books import Book
from thincoins.webs import Web


def things_of(book, m):
    """All things, as pairs of their kind and a number."""
    return [(kind, at) for kind, size in enumerate(book.sizes) for at in range(m ** size)]


def coins_of(book, m):
    """All coins, as pairs of two things and a sort."""
    found = []
    for one, other in itertools.combinations(things_of(book, m), 2):
        for sort, (low, high, _) in enumerate(book.sorts):
            if sorted((one[0], other[0])) == [low, high]:
                found.append((frozenset((one, other)), sort))
    return found


def fillings_of(book, m):
    """The pairs (coins that fall, chance) of all fillings."""
    all_coins = coins_of(book, m)
    for falls in itertools.product((False, True), repeat=len(all_coins)):
        chance = Fraction(1)
        for (_, sort), fall in zip(all_coins, falls):
            its = Fraction(1, m ** book.sorts[sort][2])
            chance *= its if fall else 1 - its
        yield {coin for coin, fall in zip(all_coins, falls) if fall}, chance


def layings_of(book, web, m, points=None, taken=()):
    """All ways to lay the points on unlike things of their kinds, none of them taken."""
    points = range(web.points) if points is None else points
    free = [thing for thing in things_of(book, m) if thing not in taken]
    for row in itertools.permutations(free, len(points)):
        if all(thing[0] == web.kinds[point] for point, thing in zip(points, row)):
            yield dict(zip(points, row))


def coins_wanted(web, places, names=()):
    """The coins on which the ties lie, but those between names."""
    return frozenset(
        (frozenset((places[one], places[two])), sort) for one, two, sort in web.ties if one not in names or two not in names
    )


def chance_of(book, m, coins):
    """The chance that all these coins fall."""
    return Fraction(1, m ** sum(book.sorts[sort][2] for _, sort in coins))


def small_cases(many, seed=41, most_things=8, most_coins=7):
    """So many triples of a book, a web that fits it and an m, with few things and coins."""
    chance = random.Random(seed)
    while many:
        book = made_book(chance, most_size=3, most_thinness=3)
        m = chance.randint(2, 4)
        if len(things_of(book, min(m, 2))) <= 24 and len(things_of(book, m)) <= most_things and len(coins_of(book, m)) <= most_coins:
            many -= 1
            yield book, made_web(chance, book, most_points=4), m


def tiny_stores():
    """Books at some m with just eight things, with just ten coins, with both, and without coins."""
    yield Book([3]), Web([0] * 6), 2
    yield Book([1], [(0, 0, 2)]), Web.all_tied(4), 5
    yield Book([1], [(0, 0, 1)]), Web.all_tied(6), 5
    yield Book([1, 1, 2], [(0, 2, 1), (0, 0, 2), (1, 1, 1)]), Web([0, 0, 1, 1, 2, 2], [(0, 1, 1), (2, 3, 2), (0, 4, 0), (1, 5, 0)]), 2
    yield Book([1, 1, 2], [(0, 2, 2), (0, 0, 1), (1, 1, 3)]), Web([0, 2, 2, 2], [(0, 1, 0), (0, 2, 0), (0, 3, 0)]), 2
    yield Book([1, 2], [(0, 1, 1), (0, 0, 1), (0, 0, 2)]), Web([0, 0, 1], [(0, 1, 1), (0, 1, 2), (0, 2, 0)]), 2
