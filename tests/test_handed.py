"""Handings of any amounts to points of any room: one is found whenever there is one."""

import itertools
import random
import unittest

from tests.asking import Asking
from tests.making import lots
from thincoins.handed import handing_of, is_handing


def has_room(ties, amounts, rooms):
    """Whether the ties within each lot of points have no more than it has room for."""
    for lot in lots(len(rooms)):
        inside = sum(amount for (one, two, _), amount in zip(ties, amounts) if one in lot and two in lot)
        if inside > sum(rooms[point] for point in lot):
            return False
    return True


def tight_cases(many):
    """Ties, amounts and rooms with little or nothing to spare."""
    chance = random.Random(29)
    for _ in range(many):
        points = chance.randint(1, 6)
        pairs = [(one, two, sort) for one, two in itertools.combinations(range(points), 2) for sort in (0, 1)]
        ties = sorted(chance.sample(pairs, min(len(pairs), chance.randint(0, 15))))
        amounts = [chance.randint(0, 9) for _ in ties]
        rooms = [0] * points
        for (one, two, _), amount in zip(ties, amounts):
            part = chance.choice((0, amount, chance.randint(0, amount)))
            rooms[one] += part
            rooms[two] += amount - part
        rooms[chance.randrange(points)] += chance.choice((0, 0, 1))
        short = chance.randrange(points)
        rooms[short] = max(0, rooms[short] - chance.choice((0, 0, 1)))
        yield ties, amounts, rooms


class TestHandingOf(Asking):
    def test_found_whenever_there_is_one(self):
        found = []
        for ties, amounts, rooms in tight_cases(1500):
            handing = handing_of(ties, amounts, rooms)
            if not has_room(ties, amounts, rooms):
                self.assertIsNone(handing)
                continue
            found.append(handing)
            self.assertTrue(is_handing(handing, ties, amounts, rooms))
            got = [0] * len(rooms)
            for (one, two, _), (lower, upper) in zip(ties, handing):
                got[one] += lower
                got[two] += upper
            self.assertEqual([lower + upper for lower, upper in handing], amounts)
            self.assertTrue(all(number >= 0 for pair in handing for number in pair))
            self.assertTrue(all(one <= two for one, two in zip(got, rooms)))
        self.assertTrue(300 < len(found) < 1400)

    def test_back_along_a_tie(self):
        # Point 1 must take back what point 0 first gave it, and give it on to point 2.
        ties = ((0, 1, 0), (0, 2, 0), (1, 2, 0))
        self.exactly(handing_of(ties, (4, 4, 4), (0, 4, 8)), ((0, 4), (0, 4), (0, 4)))
        self.exactly(handing_of(ties, (4, 4, 4), (8, 4, 0)), ((4, 0), (4, 0), (4, 0)))
        self.exactly(handing_of(ties, (4, 4, 4), (4, 4, 3)), None)

    def test_nothing_to_hand(self):
        self.exactly(handing_of((), (), (5,)), ())
        self.exactly(handing_of(((0, 1, 0),), (0,), (0, 0)), ((0, 0),))

    def test_what_is_no_handing(self):
        ties, rooms = ((0, 1, 0), (1, 2, 0)), (9, 9, 9)
        for pair in ((0, 4), (4, 0), [2, 2]):
            self.assertIs(is_handing((pair, (0, 4)), ties, (4, 4), rooms), True)
        for pair in ((-1, 5), (5, -1), (4, 4), (0, 0), (0, 3), (5, 0), (4,), (4, 0, 0), (True, 3), (3, True), None, "04", 4):
            self.assertIs(is_handing((pair, (0, 4)), ties, (4, 4), rooms), False)
            self.assertIs(is_handing([(0, 4), pair], ties, (4, 4), rooms), False)
        self.assertIs(is_handing(((0, 4), (4, 0)), ties, (4, 4), (0, 8, 0)), True)
        self.assertIs(is_handing(((0, 4), (4, 0)), ties, (4, 4), (0, 7, 9)), False)


if __name__ == "__main__":
    unittest.main()
