"""The farthest two, and the checks of papers of greatest numbers."""

import itertools
import unittest

from tests.asking import STRANGE, Asking, strangers
from tests.making import lots
from tests.test_friends import PLAIN, WIDE, made_rows, others_of, plain_friends
from thincoins.books import Book
from thincoins.check_greatest import shows_farthest, shows_friends, shows_mutual
from thincoins.errors import BadBook, BadLot, Misfit, NoKind, NoSort, TooMany
from thincoins.farthest import Apart, Steps, farthest
from thincoins.friends import Level, Most, MostBreak, Power, friends
from thincoins.mutual import mutual
from thincoins.named import everywhere
from thincoins.webs import Web

NOT_PLAIN = (WIDE, Book([1]), Book([1], [(0, 0, 1), (0, 0, 1)]), Book([1, 1], [(0, 0, 1)]))
ALL_PLAIN = [Book([size], [(0, 0, thin)]) for size, thin in itertools.product(range(1, 13), range(1, 25))]


def plain_farthest(book):
    """The paper of the farthest two, counted up."""
    size, thin = book.sizes[0], book.sorts[0][2]
    if thin >= size:
        return Apart()
    return Steps(next(d for d in range(1, 99) if d * (size - thin) > size))


class TestFarthest(Asking):
    def test_every_plain_book(self):
        for book in ALL_PLAIN:
            self.exactly(farthest(book), plain_farthest(book))
        self.exactly(farthest(Book([12], [(0, 0, 11)])), Steps(13))
        self.exactly(farthest(Book([12], [(0, 0, 1)])), Steps(2))

    def test_edges(self):
        self.exactly([farthest(Book([7], [(0, 0, thin)])) for thin in (6, 7, 8)], [Steps(8), Apart(), Apart()])
        self.exactly([bool(farthest(Book([7], [(0, 0, thin)]))) for thin in (6, 7)], [True, False])
        self.exactly((Apart().word, Apart().parts, Steps(3).word), ("apart", (), "steps"))

    def test_as_ways_are_everywhere(self):
        for book in ALL_PLAIN:
            told = farthest(book)
            for ties in range(2, 6):
                word = everywhere(book, Web.way(ties), [0, ties]).word
                self.exactly(word == "everywhere", bool(told) and told.number <= ties)

    def test_refused(self):
        for value in STRANGE + (Web([0]), "11 : 0 0 7", [11]):
            self.refused(BadBook("book"), farthest, value)
        for book in NOT_PLAIN:
            self.refused(Misfit("plain"), farthest, book)
        self.exactly(farthest(book=PLAIN), Steps(3))


def right_friends(book, kind, sorts):
    """The right papers: with any lot that shows the number."""
    told = plain_friends(book, kind, sorts)
    if told.word in ("power", "level"):
        return [told]
    found = []
    for lot in lots(len(sorts))[1:]:
        over = sum(book.sorts[sorts[name]][2] for name in lot) - book.sizes[kind]
        room = sum(book.sizes[others_of(book, kind, sorts)[name]] for name in lot)
        much = (told.number + 1) * over
        if (much > room and told.word == "most") or (much == room and told.word == "mostbreak"):
            found.append(type(told)(told.number, lot))
    return found


class TestShowsFriends(Asking):
    def test_all_papers_near_by(self):
        many = {}
        for book, kind, sorts in made_rows(150, seed=75):
            right = right_friends(book, kind, sorts)
            self.assertIn(friends(book, kind, sorts), right)
            number = getattr(right[0], "number", 2)
            told = [Level(), Power(0)] + [Power(weight) for weight in range(-3, 12)]
            told += [
                made(near, lot) for made in (Most, MostBreak) for near in (number - 1, number, number + 1)
                for lot in lots(len(sorts)) + [(0, 0), (len(sorts),), None]
            ]
            for value in told:
                self.assertIs(shows_friends(book, kind, sorts, value), value in right, (str(book), sorts, value.parts))
            for value in right:
                self.assertIs(shows_friends(book, kind, tuple(sorts), value), True)
                many[value.word] = many.get(value.word, 0) + len(right)
        self.assertEqual(set(many), {"power", "level", "most", "mostbreak"})
        self.assertGreater(many["most"], 150)

    def test_told_otherwise(self):
        self.assertIs(shows_friends(PLAIN, 0, [0, 0], Most(7, [0, 1])), True)
        for value in (
            Most(7, [1, 0]), Most(7, ([0, 1],)), Most(7, "01"), Most(7, []), Most(True, [0, 1]), Most(7, [False, True]),
            Most([7], [0, 1]), Most(None, None), Most(7.0, (0, 1)), Most(7, (0, 1.0)), Power(-3), Level(), Most("7", (0, 1)),
        ):
            self.assertIs(shows_friends(PLAIN, 0, [0, 0], value), False)
        self.assertIs(shows_friends(PLAIN, 0, [0], Power(4)), True)
        for value in (Power(True), Power("4"), Power([4]), Power(4.0), Power(None), Power(5), Level()):
            self.assertIs(shows_friends(PLAIN, 0, [0], value), False)
        self.assertIs(shows_friends(WIDE, 0, [1], Level()), True)
        # True is no 1, though Python takes it for equal.
        self.assertIs(shows_friends(WIDE, 0, [0], MostBreak(1, (0,))), True)
        for value in (MostBreak(True, (0,)), MostBreak(1, (False,)), Most(1, (0,)), MostBreak(0, (0,)), MostBreak(2, (0,))):
            self.assertIs(shows_friends(WIDE, 0, [0], value), False)

    def test_any_value(self):
        for row in ((PLAIN, 0, [0]), (PLAIN, 0, [0, 0]), (WIDE, 0, [0]), (WIDE, 0, [1])):
            right = friends(*row)
            self.assertIs(shows_friends(*row, right), True)
            for value in STRANGE + ((), [], right.word, right.parts, PLAIN, Most, Steps(7)) + strangers(right):
                self.assertIs(shows_friends(*row, value), False)

    def test_refused(self):
        for value in STRANGE + (Web([0]),):
            self.refused(BadBook("book"), shows_friends, value, value, value, value)
        self.refused(NoKind(3), shows_friends, WIDE, 3, [9], None)
        self.refused(BadLot("sorts"), shows_friends, WIDE, 1, (), None)
        self.refused(NoSort(2), shows_friends, WIDE, 1, [1, 2], None)
        self.refused(Misfit("sorts"), shows_friends, WIDE, 1, [0] * 6 + [1], None)
        self.refused(TooMany("sorts", 5), shows_friends, WIDE, 1, [0] * 6, None)
        self.assertIs(shows_friends(value=Power(4), sorts=[0], kind=0, book=PLAIN), True)


class TestShowsOthers(Asking):
    def test_mutual(self):
        for book in ALL_PLAIN:
            right = mutual(book)
            for made in (Most, MostBreak):
                for number in range(0, 30):
                    self.assertIs(shows_mutual(book, made(number, None)), made(number, None) == right)

    def test_farthest(self):
        for book in ALL_PLAIN:
            right = farthest(book)
            self.assertIs(shows_farthest(book, Apart()), not right)
            for number in range(0, 15):
                self.assertIs(shows_farthest(book, Steps(number)), Steps(number) == right)

    def test_any_value(self):
        one, level, far = Book([1], [(0, 0, 3)]), Book([7], [(0, 0, 7)]), Book([12], [(0, 0, 1)])
        self.exactly([mutual(one), mutual(level), farthest(far)], [Most(1, None), MostBreak(2, None), Steps(2)])
        for value in (Most(True, None), Most(1, ()), Most(1, [None]), Most(1, 0), Most(1, (0,)), Most([1], None), Most(1.0, None)):
            self.assertIs(shows_mutual(one, value), False)
        for value in (MostBreak(2, ()), MostBreak("2", None), Most(2, None), MostBreak(None, None)):
            self.assertIs(shows_mutual(level, value), False)
        for value in (Steps(True), Steps([2]), Steps("2"), Steps(2.0), Steps(None), Apart()):
            self.assertIs(shows_farthest(far, value), False)
        for shows, book, right in (
            (shows_mutual, one, mutual(one)), (shows_mutual, level, mutual(level)), (shows_farthest, far, farthest(far)),
            (shows_farthest, level, farthest(level)),
        ):
            self.assertIs(shows(book, right), True)
            for value in STRANGE + ((), [], right.word, right.parts, PLAIN, Steps, Level()) + strangers(right):
                self.assertIs(shows(book, value), False)

    def test_refused(self):
        for shows in (shows_mutual, shows_farthest):
            for value in STRANGE + (Web([0]),):
                self.refused(BadBook("book"), shows, value, value)
            for book in NOT_PLAIN:
                self.refused(Misfit("plain"), shows, book, None)
        self.assertIs(shows_mutual(value=Most(4, None), book=PLAIN), True)
        self.assertIs(shows_farthest(value=Steps(3), book=PLAIN), True)


if __name__ == "__main__":
    unittest.main()
