"""Webs glued to one another by pairs of points."""

import unittest

from tests.asking import STRANGE, Asking
from thincoins.books import Book
from thincoins.errors import BadLot, BadWeb, Misfit, NoPoint, TooMany, Twice
from thincoins.glued import glued
from thincoins.webs import Web


class TestGlued(Asking):
    def test_numbers_of_points(self):
        one = Web([0, 1, 2], [(0, 1, 0)])
        other = Web([2, 0, 1, 0], [(0, 2, 3), (1, 3, 1), (2, 3, 2)])
        self.exactly(str(glued(one, other, [(1, 2)])), "0 1 2 2 0 0 : 0 1 0 / 1 3 3 / 1 5 2 / 4 5 1")
        self.exactly(str(glued(one, other, ([2, 0], [0, 3]))), "0 1 2 0 1 : 0 1 0 / 0 3 1 / 0 4 2 / 2 4 3")

    def test_a_tie_that_comes_from_both_is_there_once(self):
        three = Web.all_tied(3)
        self.exactly(str(glued(three, three, [(0, 0), (1, 1)])), "0 0 0 0 : 0 1 0 / 0 2 0 / 0 3 0 / 1 2 0 / 1 3 0")
        self.exactly(str(glued(Web.way(1), Web([0, 0], [(0, 1, 1)]), [(0, 1), (1, 0)])), "0 0 : 0 1 0 / 0 1 1")

    def test_no_pairs(self):
        self.assertEqual(glued(Web.way(1), Web.ring(3, 2, 1), ()), Web.way(1).beside(Web.ring(3, 2, 1)))
        self.assertEqual(glued(web=Web([0]), other=Web([1]), pairs=[]), Web([0, 1]))

    def test_all_points(self):
        ring = Web.ring(5)
        turned = [(at, (at * 2) % 5) for at in range(5)]
        self.exactly(len(glued(ring, ring, turned).ties), 10)
        self.assertEqual(glued(ring, ring, [(at, at) for at in range(5)]), ring)
        self.assertEqual(glued(Web([0] * 6), Web.all_tied(6), [[at, 5 - at] for at in range(6)]), Web.all_tied(6))
        self.assertEqual(glued(ring, Web([0]), [(3, 0)]), ring)

    def test_webs_are_refused_first(self):
        for value in STRANGE + ("0 : -", [0], Book([1])):
            self.refused(BadWeb("web"), glued, value, value, value)
            self.refused(BadWeb("other"), glued, Web([0]), value, 5)

    def test_no_list_of_pairs(self):
        web = Web([0, 0])
        for value in STRANGE + ([0], [(0,)], [(0, 0, 0)], [(9, 9), ()], ["01"], [{0: 0, 1: 1}], [(9, 9), None], (0, 1)):
            self.refused(BadLot("pairs"), glued, web, web, value)

    def test_no_point_pair_by_pair(self):
        one, other = Web([0, 0]), Web([0, 0, 0])
        for value in STRANGE + (2, -1, [0]):
            self.refused(NoPoint(value), glued, one, other, [(value, 9)])
            self.refused(NoPoint(value), glued, one, other, [(0, 2), (0, 2), (value, 9), (8, 8)])
        for value in STRANGE + (3, -1, (0,)):
            self.refused(NoPoint(value), glued, one, other, [(0, value), (9, 9)])
        self.refused(NoPoint(2), glued, one, other, [(0, 2), (2, 2)])

    def test_twice_pair_by_pair(self):
        one, other = Web([0, 1, 0]), Web([1, 1, 1])
        self.refused(Twice(0), glued, one, other, [(0, 1), (0, 1)])
        self.refused(Twice(2), glued, one, other, [(0, 1), [1, 2], (2, 0), (2, 1)])
        self.refused(Twice(1), glued, one, other, [(0, 1), (1, 1), (0, 2)])
        self.refused(Twice(0), glued, one, other, [(0, 1), (0, 2), (1, 1)])

    def test_kinds_then_points_then_ties(self):
        one = Web([0, 1, 0, 0])
        self.refused(Misfit("kinds"), glued, one, Web([0, 1, 1, 1, 1]), [(0, 1)])
        self.refused(Misfit("kinds"), glued, one, Web([0, 1]), [(0, 0), (2, 1)])
        many = Web([0] * 4, [(a, b, s) for b in range(4) for a in range(b) for s in range(3) if (a, b) != (2, 3)])
        more = Web.all_tied(4, 0, 3)
        self.refused(TooMany("points", 6), glued, many, more, [(0, 0)])
        self.refused(TooMany("ties", 15), glued, many, more, [(0, 0), (1, 1)])
        self.refused(TooMany("points", 6), glued, Web([0] * 6), Web([0]), [])
        self.exactly(glued(Web([0] * 6), Web([0]), [(5, 0)]).points, 6)
        self.exactly(len(glued(many, many, [(at, at) for at in range(4)]).ties), 15)


if __name__ == "__main__":
    unittest.main()
