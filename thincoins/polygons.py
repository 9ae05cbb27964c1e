"""How thin two sorts may be at once for a web to come."""

from thincoins.checks import common_divisor, lowest
from thincoins.dials import Barred, first_barring
from thincoins.errors import Twice
from thincoins.numbered import require_sort
from thincoins.papers import Paper
from thincoins.required import require_book, require_fit, require_web
from thincoins.rests import part_rests


class Polygon(Paper):
    """The web comes exactly below these lines; the corners of their edge."""

    def __init__(self, lines, corners):
        super().__init__("polygon", lines, corners)
        self.lines = self.parts[0]
        self.corners = self.parts[1]


def lines_of(rests):
    """The lines of all parts with a tie of either sort, each once."""
    lines = []
    for _, rest, counts in rests:
        divisor = common_divisor([counts[0], counts[1], rest])
        line = (counts[0] // divisor, counts[1] // divisor, rest // divisor)
        if counts != (0, 0) and line not in lines:
            lines.append(line)
    return lines


def turned_about(line):
    """The line with x and y exchanged."""
    p, q, r = line
    return (q, p, r)


def is_needless(line, lines):
    """Whether the pairs below all lines are the same without this one."""
    if line[1] > 0:
        return not has_edge(line, lines)
    return not has_edge(turned_about(line), [turned_about(other) for other in lines])


def has_edge(line, lines):
    """Whether more than one point of the line, which has a q above 0, is beyond no other line."""
    p, q, r = line
    # On the line y is (r - p x) / q. What x is at least and at most there, as number and by,
    # by above 0: from 0 on, and y from 0 on; each other line is a times x is at most b.
    least, most = (0, 1), None
    if p > 0:
        most = (r, p)
    for its_p, its_q, its_r in lines:
        a = its_p * q - its_q * p
        b = its_r * q - its_q * r
        if a > 0 and (most is None or b * most[1] < most[0] * a):
            most = (b, a)
        if a < 0 and -b * least[1] > least[0] * -a:
            least = (-b, -a)
        if a == 0 and b < 0:
            return False
    return most is None or least[0] * most[1] < most[0] * least[1]


def in_edge_order(lines):
    """The lines, no two of one slope, with p / q rising, that with q = 0 last."""
    ranked = [(len([other for other in lines if other[0] * line[1] < line[0] * other[1]]), line) for line in lines]
    return [line for _, line in sorted(ranked)]


def crossing(line, other):
    """The pair (x, y) at which the two lines, of unlike slopes, cross."""
    p, q, r = line
    its_p, its_q, its_r = other
    by = p * its_q - its_p * q
    return (lowest(r * its_q - its_r * q, by), lowest(p * its_r - its_p * r, by))


def corners_of(lines):
    """The corners along the edge of the lines, which are in its order, none of them needless."""
    corners = []
    if len(lines) > 0 and lines[0][1] > 0:
        corners.append(((0, 1), lowest(lines[0][2], lines[0][1])))
    for at in range(1, len(lines)):
        corners.append(crossing(lines[at - 1], lines[at]))
    if len(lines) > 0 and lines[-1][0] > 0:
        corners.append((lowest(lines[-1][2], lines[-1][0]), (0, 1)))
    return corners


def polygon(book, web, sort, other):
    """The Polygon, x for the sort and y for the other one, or the Barred of the first barring part."""
    require_book(book, "book")
    require_web(web, "web")
    require_sort(sort, len(book.sorts))
    require_sort(other, len(book.sorts))
    if sort == other:
        raise Twice(other)
    require_fit(book, web)
    rests = part_rests(book, web, (sort, other))
    barring = first_barring(rests)
    if barring is not None:
        return Barred(barring)
    lines = lines_of(rests)
    edge = in_edge_order([line for line in lines if not is_needless(line, lines)])
    return Polygon(edge, corners_of(edge))
