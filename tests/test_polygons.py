"""How thin two sorts may be at once; which papers about it are right."""

import itertools
import unittest
from fractions import Fraction

from tests.asking import STRANGE, Asking, strangers
from tests.making import greatest_webs, lots, made_pairs
from thincoins.books import Book
from thincoins.check_dials import shows_polygon
from thincoins.dials import Any, Barred, Dial
from thincoins.errors import BadBook, BadWeb, Misfit, NoSort, Twice
from thincoins.handings import Rare
from thincoins.papers import Paper
from thincoins.polygons import Polygon, polygon
from thincoins.webs import Web

PAIR = Book([1], [(0, 0, 1), (0, 0, 1)])
RING = Web([0, 0, 0], [(0, 1, 0), (0, 2, 0), (1, 2, 1)])
WIDE = Book([3], [(0, 0, 1), (0, 0, 1), (0, 0, 6)])
X_AXIS, Y_AXIS = (0, 1, 0), (1, 0, 0)


def part_rows(book, web, sort, other):
    """The triple (p, q, rest) of each part."""
    rows = {}
    for lot in lots(web.points)[1:]:
        ties = [its for one, two, its in web.ties if one in lot and two in lot]
        rest = sum(book.sizes[web.kinds[point]] for point in lot)
        rest -= sum(book.sorts[its][2] for its in ties if its not in (sort, other))
        rows[lot] = (ties.count(sort), ties.count(other), rest)
    return rows


def meeting(one, two):
    """The point at which two lines cross, or None."""
    by = one[0] * two[1] - two[0] * one[1]
    if by == 0:
        return None
    return (Fraction(one[2] * two[1] - two[2] * one[1], by), Fraction(one[0] * two[2] - two[0] * one[2], by))


def is_needed(line, lines):
    """Whether a point of the line above both axes is below all other lines: only points between
    two crossings that follow one another need be tried."""
    met = {meeting(line, other) for other in lines + [X_AXIS, Y_AXIS]} - {None}
    points = sorted((x, -y) for x, y in met)
    points = [(points[0][0] - line[1], points[0][1] - line[0])] + points + [(points[-1][0] + line[1], points[-1][1] + line[0])]
    for one, two in zip(points, points[1:]):
        x, y = (one[0] + two[0]) / 2, -(one[1] + two[1]) / 2
        if x > 0 and y > 0 and all(p * x + q * y < r for p, q, r in lines if (p, q, r) != line):
            return True
    return False


def plain_polygon(book, web, sort, other):
    """The polygon, by each part."""
    rows = part_rows(book, web, sort, other)
    barring = [lot for lot, row in rows.items() if row[2] <= 0]
    if barring:
        return Barred(barring[0])
    lines = []
    for p, q, r in rows.values():
        by = next(by for by in range(r, 0, -1) if p % by == q % by == r % by == 0)
        line = (p // by, q // by, r // by)
        if (p or q) and line not in lines:
            lines.append(line)
    needed = sorted([line for line in lines if is_needed(line, lines)], key=lambda line: Fraction(line[0], sum(line[:2])))
    corners = set()
    for one, two in itertools.combinations(lines + [X_AXIS, Y_AXIS], 2):
        point = meeting(one, two)
        if point not in (None, (0, 0)) and min(point) >= 0:
            if all(p * point[0] + q * point[1] <= r for p, q, r in lines):
                corners.add(point)
    along = sorted(corners, key=lambda point: (point[0], -point[1]))
    told = [tuple((number.numerator, number.denominator) for number in point) for point in along]
    return Polygon(needed, told)


class TestPolygon(Asking):
    def test_as_all_parts_tell(self):
        words, sizes = [], []
        for book, web in made_pairs(300, seed=17, most_points=6, most_ties=12):
            for sort, other in itertools.permutations(range(len(book.sorts)), 2):
                paper = polygon(book, web, sort, other)
                wanted = plain_polygon(book, web, sort, other)
                self.exactly((paper.word, paper.parts), (wanted.word, wanted.parts))
                self.assertTrue(shows_polygon(book, web, sort, other, paper))
                words.append(paper.word)
                sizes.append(len(paper.parts[0]) if paper else 0)
        self.assertGreater(min(words.count("polygon"), words.count("barred")), 50)
        self.assertGreater(max(sizes), 2)

    def test_the_order_of_lines_and_corners(self):
        self.exactly(polygon(PAIR, RING, 0, 1).lines, ((0, 1, 2), (2, 1, 3)))
        self.exactly(polygon(PAIR, RING, 1, 0).lines, ((1, 2, 3), (1, 0, 2)))
        self.exactly(polygon(PAIR, RING, 1, 0).corners, (((0, 1), (3, 2)), ((2, 1), (1, 2)), ((2, 1), (0, 1))))

    def test_lines_that_are_equal_or_needless(self):
        two = Web([0] * 4, [(0, 1, 0), (2, 3, 0)])
        self.exactly(polygon(PAIR, two, 0, 1).parts, (((1, 0, 2),), (((2, 1), (0, 1)),)))
        far = Book([1, 2], [(0, 0, 1), (1, 1, 1), (0, 0, 1)])
        self.exactly(polygon(far, Web([0, 0, 1, 1], [(0, 1, 0), (2, 3, 1)]), 0, 1).lines, ((0, 1, 4), (1, 0, 2)))
        self.exactly(polygon(far, Web([0, 0], [(0, 1, 0), (0, 1, 2)]), 0, 2).lines, ((1, 1, 2),))

    def test_a_line_that_touches_in_a_corner_alone(self):
        # Two points have 4 - x, the other two 4 - y, all four 8 - x - y, which touches at 4, 4.
        book = Book([2], [(0, 0, 1), (0, 0, 1)])
        web = Web([0, 0, 0, 0], [(0, 1, 0), (2, 3, 1)])
        self.exactly(polygon(book, web, 0, 1).parts, (
            ((0, 1, 4), (1, 0, 4)), (((0, 1), (4, 1)), ((4, 1), (4, 1)), ((4, 1), (0, 1))),
        ))

    def test_a_line_that_touches_on_an_axis_alone(self):
        # Both ties join the first two points: 2 - x - y; one joins the others: 2 - x touches at 2, 0.
        web = Web([0, 0, 0, 0], [(0, 1, 0), (0, 1, 1), (2, 3, 0)])
        self.exactly(polygon(PAIR, web, 0, 1).parts, (((1, 1, 2),), (((0, 1), (2, 1)), ((2, 1), (0, 1)))))

    def test_sides_without_an_end(self):
        self.exactly(polygon(PAIR, Web.way(1), 0, 1).parts, (((1, 0, 2),), (((2, 1), (0, 1)),)))
        self.exactly(polygon(PAIR, Web.way(1), 1, 0).parts, (((0, 1, 2),), (((0, 1), (2, 1)),)))

    def test_no_tie_of_either_sort(self):
        self.exactly(polygon(PAIR, Web([0]), 0, 1).parts, ((), ()))
        self.exactly(polygon(WIDE.with_thinness(2, 5), Web([0, 0], [(0, 1, 2)]), 0, 1).parts, ((), ()))
        self.assertEqual(polygon(WIDE, Web([0, 0], [(0, 1, 2)]), 0, 1), Barred((0, 1)))

    def test_the_first_barring_part(self):
        web = Web([0] * 4, [(0, 1, 0), (1, 3, 2), (1, 2, 2), (2, 3, 1)])
        self.assertEqual(polygon(WIDE, web, 0, 1), Barred((1, 2)))

    def test_errors_in_their_order(self):
        unfit = Web([0, 0], [(0, 1, 3)])
        for call, more in ((polygon, ()), (shows_polygon, (Any(),))):
            for value in STRANGE + (RING, "2 : -"):
                self.refused(BadBook("book"), call, value, value, value, value, *more)
            for value in STRANGE + (PAIR, "0 : -"):
                self.refused(BadWeb("web"), call, PAIR, value, 9, 9, *more)
            for value in STRANGE + (2, -1, [0]):
                self.refused(NoSort(value), call, PAIR, unfit, value, value, *more)
                self.refused(NoSort(value), call, PAIR, unfit, value, 0, *more)
                self.refused(NoSort(value), call, PAIR, unfit, 1, value, *more)
            self.refused(Twice(1), call, PAIR, unfit, 1, 1, *more)
            self.refused(Misfit("book"), call, PAIR, unfit, 1, 0, *more)
        self.assertEqual(polygon(other=1, sort=0, web=RING, book=PAIR), polygon(PAIR, RING, 0, 1))


class TestShowsPolygon(Asking):
    def setUp(self):
        self.right = polygon(PAIR, RING, 0, 1)

    def shows(self, lines, corners):
        return shows_polygon(PAIR, RING, 0, 1, Polygon(lines, corners))

    def test_lists_and_tuples(self):
        lines, corners = self.right.parts
        self.assertIs(self.shows(lines, corners), True)
        self.assertIs(self.shows([list(line) for line in lines], [[list(x), list(y)] for x, y in corners]), True)

    def test_bent_lines(self):
        lines, corners = self.right.parts
        bent = (
            (), lines[:1], lines[::-1], lines + lines[1:], lines + ((1, 0, 2),), ((0, 1, 2), (4, 2, 6)), ((0, 1, 2), (2, 1)),
            ((0, True, 2), (2, 1, 3)), ((False, 1, 2), (2, 1, 3)), ((0, 1.0, 2), (2, 1, 3)), ((0, 1, 2), 3), None, 2, "ab",
            ((0, 1, 2), (2, 1, 3, 0)), ({}, {}),
        )
        for told in bent:
            self.assertIs(self.shows(told, corners), False)

    def test_bent_corners(self):
        lines, corners = self.right.parts
        bent = (
            (), corners[:2], corners[::-1], corners + corners[:1], (((0, 2), (2, 1)),) + corners[1:],
            (((0, True), (2, 1)),) + corners[1:], (((0, 1), (4, 2)),) + corners[1:], ((0, 2),) + corners[1:],
            (((0, 1), (2, 1), (2, 1)),) + corners[1:], (((2, 1), (0, 1)),) + corners[1:], None, 3, (None, None, None),
        )
        for told in bent:
            self.assertIs(self.shows(lines, told), False)

    def test_each_barring_part(self):
        for book, web in made_pairs(60, seed=23):
            if len(book.sorts) > 1:
                for lot, row in part_rows(book, web, 0, 1).items():
                    self.assertIs(shows_polygon(book, web, 0, 1, Barred(list(lot))), row[2] <= 0)
        web = Web([0, 0], [(0, 1, 0), (0, 1, 2)])
        self.assertIs(shows_polygon(WIDE, web, 0, 1, Barred([0, 1])), True)
        for part in ((1, 0), (0, 0, 1), (), (0, True), (0,), (0, 1, 2), None, ((0, 1),), "01"):
            self.assertIs(shows_polygon(WIDE, web, 0, 1, Barred(part)), False)
        self.assertIs(shows_polygon(WIDE, web, 0, 1, Polygon((), ())), False)

    def test_values_of_any_kind(self):
        parts = self.right.parts
        others = (Paper("polygon", *parts), Polygon, parts, Any(), Dial((1, 1), (0, 1)), RING, "polygon")
        for value in STRANGE + others + strangers(self.right):
            self.assertIs(shows_polygon(PAIR, RING, 0, 1, value), False)
        barred = polygon(WIDE, Web([0, 0], [(0, 1, 2)]), 0, 1)
        for value in (Paper("barred", (0, 1)), Rare((0, 1)), (0, 1)) + strangers(barred):
            self.assertIs(shows_polygon(WIDE, Web([0, 0], [(0, 1, 2)]), 0, 1, value), False)
        self.assertIs(shows_polygon(value=self.right, other=1, sort=0, web=RING, book=PAIR), True)

    def test_the_greatest_webs(self):
        for book, web in greatest_webs():
            for sort, other in itertools.permutations(range(len(book.sorts)), 2):
                paper = self.quick(polygon, book, web, sort, other)
                self.assertEqual(paper, plain_polygon(book, web, sort, other))
                self.assertIs(self.quick(shows_polygon, book, web, sort, other, paper), True)


if __name__ == "__main__":
    unittest.main()
