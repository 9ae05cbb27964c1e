"""How many friends some names have, and how many things are mutually tied."""

import itertools
import random
import unittest

from tests.asking import STRANGE, Asking
from tests.making import lots, made_book
from thincoins.books import Book
from thincoins.errors import BadBook, BadLot, BadNumber, Misfit, NoKind, NoSort, TooMany
from thincoins.friends import Level, Most, MostBreak, Power, friends, friends_web
from thincoins.handings import comes
from thincoins.mutual import mutual
from thincoins.webs import Web, fits

PLAIN, WIDE = Book([11], [(0, 0, 7)]), Book([3, 2, 5], [(0, 1, 4), (0, 2, 3)])
MANY = 200


def others_of(book, kind, sorts):
    """The other kinds, sort by sort."""
    found = []
    for sort in sorts:
        low, high, _ = book.sorts[sort]
        found.append(high if low == kind else low)
    return found


def plain_friends(book, kind, sorts):
    """The paper, number by number."""
    thin = [book.sorts[sort][2] for sort in sorts]
    others = others_of(book, kind, sorts)
    weight = book.sizes[kind] - sum(thin)
    if weight >= 0:
        return Power(weight) if weight else Level()
    rows = []
    for lot in lots(len(sorts))[1:]:
        rows.append((lot, sum(thin[name] for name in lot) - book.sizes[kind], sum(book.sizes[others[name]] for name in lot)))
    for k in range(MANY, -1, -1):
        if not any(k * over >= room for _, over, room in rows):
            bar = [lot for lot, over, room in rows if (k + 1) * over > room]
            level = [lot for lot, over, room in rows if (k + 1) * over == room]
            return Most(k, bar[0]) if bar else MostBreak(k, level[0])


def made_rows(many, seed=71, **bounds):
    """Books with a kind and one to five sorts that join it, one perhaps told again."""
    chance = random.Random(seed)
    while many:
        book = made_book(chance, **bounds)
        kind = chance.randrange(len(book.sizes))
        fit = [sort for sort, told in enumerate(book.sorts) if kind in told[:2]]
        if fit:
            many -= 1
            yield book, kind, [chance.choice(fit) for _ in range(chance.randint(1, 5))]


class TestFriends(Asking):
    def test_number_by_number(self):
        words = []
        for book, kind, sorts in made_rows(800):
            told = friends(book, kind, sorts)
            self.exactly(told, plain_friends(book, kind, sorts))
            self.exactly(friends(book, kind, tuple(sorts)), told)
            words.append((told.word, len(sorts)))
        for word in ("power", "most", "mostbreak", "level"):
            self.assertGreater(len([one for one, _ in words if one == word]), 20)
        self.assertEqual({many for word, many in words if word == "most"}, {1, 2, 3, 4, 5})
        self.assertGreater(len({many for word, many in words if word == "mostbreak"}), 2)

    def test_great_numbers(self):
        for book, kind, sorts in made_rows(300, seed=72, most_size=12, most_thinness=24):
            self.exactly(friends(book, kind, sorts), plain_friends(book, kind, sorts))
        self.exactly(friends(Book([11, 12], [(0, 1, 12)]), 0, [0]), MostBreak(11, (0,)))
        sixty = Book([11, 12], [(0, 1, 2), (0, 1, 3), (0, 1, 1)])
        self.exactly(friends(sixty, 0, [0, 0, 1, 1, 0]), MostBreak(59, (0, 1, 2, 3, 4)))

    def test_truth(self):
        self.exactly([bool(friends(*told)) for told in ((PLAIN, 0, [0]), (PLAIN, 0, [0, 0]))], [True, True])
        self.exactly([bool(friends(*told)) for told in ((WIDE, 0, [0]), (WIDE, 0, [1]))], [False, False])

    def test_known(self):
        self.exactly(friends(sorts=[0, 0], kind=0, book=PLAIN), Most(7, (0, 1)))
        self.exactly(friends(WIDE, 0, [0]), MostBreak(1, (0,)))
        self.exactly(friends(WIDE, 0, [1, 0]), Most(1, (0, 1)))
        self.exactly(friends(WIDE, 2, [1]), Power(2))
        self.exactly(friends(WIDE, 2, [1, 1]), MostBreak(5, (0, 1)))
        self.exactly(friends(PLAIN, 0, [0] * 5), Most(2, (0, 1, 2, 3)))
        self.exactly(friends(Book([1], [(0, 0, 2)]), 0, [0]), MostBreak(0, (0,)))

    def test_the_web_of_friends(self):
        seen = set()
        for book, kind, sorts in made_rows(250, seed=73):
            told = friends(book, kind, sorts)
            for many in range(0, 7 - len(sorts)):
                web = friends_web(book, kind, sorts, many)
                self.assertIs(fits(book, web), True)
                word = comes(book, web).word
                if told.word in ("power", "level"):
                    self.exactly(word, "comes")
                else:
                    self.exactly(word == "comes", many <= told.number)
                    if many == told.number + 1:
                        self.exactly(word, "rare" if told else "onbreak")
                        seen.add(word)
        self.assertEqual(seen, {"rare", "onbreak"})


class TestFriendsWeb(Asking):
    def test_names_then_friends(self):
        for book, kind, sorts in made_rows(100, seed=74):
            for many in range(0, 7 - len(sorts)):
                kinds = others_of(book, kind, sorts) + [kind] * many
                ties = [(at, len(sorts) + its, sort) for at, sort in enumerate(sorts) for its in range(many)]
                self.assertTrue(friends_web(book, kind, sorts, many) == Web(kinds, ties))
        self.exactly(str(friends_web(many=2, sorts=(0, 1), kind=0, book=WIDE)), "1 2 0 0 : 0 2 0 / 0 3 0 / 1 2 1 / 1 3 1")

    def test_six_and_seven_points(self):
        for names in range(1, 6):
            self.exactly(friends_web(PLAIN, 0, [0] * names, 6 - names).points, 6)
            for many in (7 - names, 10 ** 59):
                self.refused(TooMany("points", 6), friends_web, PLAIN, 0, [0] * names, many)

    def test_bad_numbers_ahead_of_misfits(self):
        for value in STRANGE + (-1, -10 ** 59, [1], 2.0):
            self.refused(BadNumber("many"), friends_web, WIDE, 1, [0, 1] * 3, value)
        self.refused(Misfit("sorts"), friends_web, WIDE, 1, [0, 1] * 3, 10)
        self.refused(TooMany("sorts", 5), friends_web, WIDE, 0, [0, 1] * 3, 10)
        self.refused(TooMany("sorts", 5), friends_web, WIDE, 0, [0, 1] * 3, 0)


class TestRefused(Asking):
    def test_errors_in_their_order(self):
        for call, more in ((friends, ()), (friends_web, (None,))):
            for value in STRANGE + (Web([0]), "11 : 0 0 7"):
                self.refused(BadBook("book"), call, value, value, value, *more)
            for value in STRANGE + (3, -1, [0]):
                self.refused(NoKind(value), call, WIDE, value, value, *more)
            for value in STRANGE + (0, [], ()):
                self.refused(BadLot("sorts"), call, WIDE, 1, value, *more)
            for value in STRANGE + (2, -1, [0]):
                self.refused(NoSort(value), call, WIDE, 1, [1, 1, value, 7], *more)
                self.refused(NoSort(value), call, WIDE, 1, [0] * 7 + [value], *more)
        self.refused(Misfit("sorts"), friends, WIDE, 1, [0, 0, 1])
        self.refused(Misfit("sorts"), friends, WIDE, 1, [0] * 6 + [1])
        self.refused(TooMany("sorts", 5), friends, WIDE, 1, [0] * 6)
        # The kind stands for nothing but a kind, though a sort is as thin.
        self.refused(Misfit("sorts"), friends, Book([3, 2, 5], [(0, 0, 1)]), 1, [0])
        self.refused(Misfit("sorts"), friends_web, Book([3, 2, 5], [(0, 1, 2)]), 2, [0], 1)
        self.refused(NoSort(0), friends, Book([1]), 0, [0])


class TestMutual(Asking):
    def test_every_plain_book(self):
        words = []
        for size, thin in itertools.product(range(1, 13), range(1, 25)):
            number = max(k for k in range(1, 40) if (k - 1) * thin < 2 * size)
            told = mutual(Book([size], [(0, 0, thin)]))
            made = MostBreak if number * thin == 2 * size else Most
            self.exactly(told, made(number, None))
            self.assertIs(told.lot, None)
            words.append(told.word)
        self.assertEqual(set(words), {"most", "mostbreak"})

    def test_as_mutually_tied_points_come(self):
        for size, thin in itertools.product(range(1, 13), range(1, 25)):
            book = Book([size], [(0, 0, thin)])
            told = mutual(book)
            for points in range(1, 7):
                word = comes(book, Web.all_tied(points)).word
                self.exactly(word == "comes", points <= told.number)
                if points == told.number + 1:
                    self.exactly(word, "rare" if told else "onbreak")

    def test_refused(self):
        for value in STRANGE + (Web([0]), "11 : 0 0 7", [11]):
            self.refused(BadBook("book"), mutual, value)
        for book in (WIDE, Book([1]), Book([1], [(0, 0, 1), (0, 0, 1)]), Book([1, 1], [(0, 0, 1)])):
            self.refused(Misfit("plain"), mutual, book)
        self.exactly(mutual(book=PLAIN), Most(4, None))


if __name__ == "__main__":
    unittest.main()
