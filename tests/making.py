"""Books and webs of many shapes, the same in each run, and weights told in a plain way."""

import itertools
import random

from thincoins.books import Book
from thincoins.webs import Web


def made_book(chance, kinds=None, most_size=6, most_thinness=8):
    """A book of one to three kinds."""
    kinds = kinds or chance.randint(1, 3)
    sorts = [
        (chance.randrange(kinds), chance.randrange(kinds), chance.randint(1, most_thinness))
        for _ in range(chance.randint(1, 4))
    ]
    return Book([chance.randint(1, most_size) for _ in range(kinds)], sorts)


def made_web(chance, book, most_points=5, most_ties=10):
    """A web that fits the book."""
    kinds = [chance.randrange(len(book.sizes)) for _ in range(chance.randint(1, most_points))]
    wishes = [
        (one, two, sort)
        for one, two in itertools.combinations(range(len(kinds)), 2)
        for sort, told in enumerate(book.sorts)
        if told[:2] == tuple(sorted((kinds[one], kinds[two])))
    ]
    return Web(kinds, chance.sample(wishes, min(len(wishes), chance.randint(0, most_ties))))


def made_pairs(many, seed=5, **bounds):
    """So many pairs of a book and a web that fits it."""
    chance = random.Random(seed)
    for _ in range(many):
        book = made_book(chance)
        yield book, made_web(chance, book, **bounds)


def lots(points):
    """All lots of points, in order."""
    return [lot for size in range(points + 1) for lot in itertools.combinations(range(points), size)]


def plain_weight(book, web, lot):
    """The weight of a lot, ties counted one by one."""
    sizes = [book.sizes[web.kinds[point]] for point in lot]
    thinnesses = [book.sorts[sort][2] for one, two, sort in web.ties if one in lot and two in lot]
    return sum(sizes) - sum(thinnesses)


def greatest_webs():
    """Webs of six points with fifteen ties, one of three kinds with thirteen, and books that they fit."""
    one = Book([12], [(0, 0, 4)])
    yield one, Web.all_tied(6)
    yield Book([1], [(0, 0, 24)]), Web.all_tied(6)
    four = Book([12], [(0, 0, thin) for thin in (1, 2, 3, 4)])
    chance = random.Random(3)
    wishes = [(a, b, sort) for a, b in itertools.combinations(range(6), 2) for sort in range(4)]
    for _ in range(4):
        yield four, Web([0] * 6, chance.sample(wishes, 15))
    between = {(0, 1): 0, (0, 2): 1, (1, 2): 2}
    ties = [(a, b, between[a // 2, b // 2]) for a, b in itertools.combinations(range(6), 2) if a // 2 != b // 2]
    book = Book([12, 11, 10], [(0, 1, 5), (0, 2, 5), (1, 2, 5), (0, 0, 1)])
    yield book, Web([0, 0, 1, 1, 2, 2], ties + [(0, 1, 3)])
