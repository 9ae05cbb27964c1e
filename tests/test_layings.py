"""Parts, layings, turns, and which webs are alike."""

import itertools
import random
import unittest

from tests.asking import STRANGE, Asking
from tests.making import greatest_webs, lots, made_pairs
from thincoins.books import Book
from thincoins.errors import BadWeb
from thincoins.layings import Alike, Unlike, alike, first_laying, layings, many_layings, parts, turns
from thincoins.webs import Web


def plain_layings(web, other):
    """All layings, each way of placing tried."""
    found = []
    for row in itertools.permutations(range(other.points), web.points):
        if any(web.kinds[at] != other.kinds[place] for at, place in enumerate(row)):
            continue
        laid = [(min(row[one], row[two]), max(row[one], row[two]), sort) for one, two, sort in web.ties]
        if all(tie in other.ties for tie in laid):
            found.append(row)
    return tuple(found)


class TestParts(Asking):
    def test_parts(self):
        self.exactly(parts(Web([0])), ((0,),))
        self.exactly(parts(web=Web.way(2)), ((0,), (1,), (2,), (0, 1), (0, 2), (1, 2), (0, 1, 2)))
        for points in range(1, 7):
            self.exactly(parts(Web([0] * points)), tuple(lots(points)[1:]))
            self.exactly(len(parts(Web([0] * points))), 2 ** points - 1)

    def test_parts_refuses(self):
        for value in STRANGE + ("0 : -", Book([1])):
            self.refused(BadWeb("web"), parts, value)
            self.refused(BadWeb("web"), turns, value)


class TestLayings(Asking):
    def test_as_placings_tried_one_by_one(self):
        webs = [web for _, web in made_pairs(60, most_points=4)]
        for web, other in zip(webs, webs[1:] + webs[:1]):
            for one, two in ((web, other), (web, web), (web.part([0]), other)):
                wanted = plain_layings(one, two)
                self.exactly(layings(one, two), wanted)
                self.exactly(many_layings(one, two), len(wanted))
                self.exactly(first_laying(one, two), wanted[0] if wanted else None)

    def test_they_ascend(self):
        found = layings(Web.way(3), Web.ring(6))
        self.exactly(found, tuple(sorted(found)))
        self.exactly(first_laying(Web.way(3), Web.ring(6)), (0, 1, 2, 3))
        self.exactly(first_laying(Web.all_tied(3), Web.ring(4)), None)

    def test_sorts_and_kinds_count(self):
        self.exactly(layings(Web([0, 1]), Web([1, 0])), ((1, 0),))
        self.exactly(layings(Web([0, 0], [(0, 1, 0)]), Web([0, 0], [(0, 1, 1)])), ())
        self.exactly(layings(Web([0, 0], [(0, 1, 0), (0, 1, 1)]), Web([0, 0], [(0, 1, 0), (0, 1, 1)])), ((0, 1), (1, 0)))
        self.exactly(layings(web=Web([0] * 3), other=Web([0] * 2)), ())

    def test_turns_of_known_shapes(self):
        self.exactly([turns(Web.all_tied(points)) for points in range(1, 7)], [1, 2, 6, 24, 120, 720])
        self.exactly([turns(Web.ring(points)) for points in range(3, 7)], [6, 8, 10, 12])
        self.exactly([turns(Web.way(ties)) for ties in range(6)], [1, 2, 2, 2, 2, 2])
        self.exactly(turns(Web([0] * 5, [(0, other, 0) for other in range(1, 5)])), 24)
        self.exactly(turns(Web([0, 0, 1, 1])), 4)
        self.exactly(turns(Web([0, 0, 0], [(0, 1, 0), (1, 2, 1)])), 1)

    def test_they_refuse(self):
        web = Web([0])
        for call in (layings, many_layings, first_laying, alike):
            for value in STRANGE + ("0 : -", [0], Book([1])):
                self.refused(BadWeb("web"), call, value, value)
                self.refused(BadWeb("other"), call, web, value)

    def test_the_greatest_webs(self):
        for _, web in greatest_webs():
            turned = web.in_order([5, 3, 1, 0, 2, 4])
            found = self.quick(layings, web, turned)
            self.exactly(len(found), self.quick(turns, web))
            self.assertEqual(self.quick(alike, web, turned), Alike(found[0]))


class TestAlike(Asking):
    def test_alike_webs(self):
        chance = random.Random(8)
        for _, web in made_pairs(40):
            order = chance.sample(range(web.points), web.points)
            other = web.in_order(order)
            wanted = plain_layings(web, other)[0]
            self.exactly(alike(web, other).parts, (wanted,))
            self.assertTrue(alike(other, web))

    def test_points_come_first(self):
        self.assertEqual(alike(Web([0, 1]), Web([0, 0])), Unlike("points"))
        self.assertEqual(alike(Web([0, 0]), Web([0], [])), Unlike("points"))
        self.assertEqual(alike(Web([0, 0], [(0, 1, 0)]), Web([0, 1])), Unlike("points"))
        self.assertEqual(alike(Web([0, 1, 1]), Web([0, 0, 1])), Unlike("points"))

    def test_then_ties(self):
        self.assertEqual(alike(Web([0, 0], [(0, 1, 0)]), Web([0, 0])), Unlike("ties"))
        self.assertEqual(alike(Web([0, 0]), Web([0, 0], [(0, 1, 0)])), Unlike("ties"))
        self.assertEqual(alike(Web([0, 0], [(0, 1, 0)]), Web([0, 0], [(0, 1, 1)])), Unlike("ties"))

    def test_then_layings(self):
        star = Web([0] * 4, [(0, 1, 0), (0, 2, 0), (0, 3, 0)])
        self.assertEqual(alike(Web.way(3), star), Unlike("layings"))
        self.assertEqual(alike(Web.ring(6), Web.all_tied(3).beside(Web.all_tied(3))), Unlike("layings"))
        one, other = Web([0, 0, 1], [(0, 1, 0), (0, 2, 1)]), Web([0, 1, 0], [(0, 1, 0), (0, 2, 1)])
        self.assertEqual(alike(one, other), Unlike("layings"))
        self.assertIs(bool(alike(one, other)), False)


if __name__ == "__main__":
    unittest.main()
