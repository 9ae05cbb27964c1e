"""Webs: wished ties between points of some kinds."""

from thincoins.books import Book
from thincoins.checks import is_list, is_within
from thincoins.errors import BadBook, BadLot, BadWeb, Misfit, TooMany, Twice
from thincoins.numbered import require_number, require_point, require_points, require_ties
from thincoins.texts import Reader, items_of, row_text, rows_text

MOST_POINTS = 6
MOST_TIES = 15
LAST_KIND = 2
LAST_SORT = 3
AHEAD_OF_ALL = (0, 0, 3)


def are_kinds(value):
    """Whether it is a list of the kinds of points, one at least."""
    return is_list(value) and len(value) > 0 and all([is_within(one, 0, LAST_KIND) for one in value])


def is_tie(value, points):
    """Whether it is a triple of two unlike points, of so many, and a sort."""
    if not is_list(value) or len(value) != 3:
        return False
    point, other, sort = value
    if not is_within(point, 0, points - 1) or not is_within(other, 0, points - 1):
        return False
    return point != other and is_within(sort, 0, LAST_SORT)


def lower_point_first(tie):
    """The triple of a tie with its lower point first."""
    point, other, sort = tie
    return (min(point, other), max(point, other), sort)


def require_unlike_ties(ties):
    """No tie wishes what one ahead of it wishes."""
    wished = {}
    for tie in ties:
        wish = lower_point_first(tie)
        if wish in wished:
            raise Twice(tie)
        wished[wish] = True


def require_bounds(points, ties):
    """Not too many points, then not too many ties."""
    if points > MOST_POINTS:
        raise TooMany("points", MOST_POINTS)
    if ties > MOST_TIES:
        raise TooMany("ties", MOST_TIES)


def require_look(kind, sort):
    """The one kind and the one sort of a web that is made of a number."""
    require_number(kind, 0, LAST_KIND, "kind")
    require_number(sort, 0, LAST_SORT, "sort")


def way_ties(ties, sort):
    """So many ties in a row."""
    return [(at, at + 1, sort) for at in range(ties)]


class Web:
    """Points of some kinds, and the ties wished between them."""

    def __init__(self, kinds, ties=()):
        if not are_kinds(kinds):
            raise BadWeb("kinds")
        if not is_list(ties) or not all([is_tie(tie, len(kinds)) for tie in ties]):
            raise BadWeb("ties")
        require_unlike_ties(ties)
        require_bounds(len(kinds), len(ties))
        self.kinds = tuple(kinds)
        self.points = len(kinds)
        self.ties = tuple(sorted([lower_point_first(tie) for tie in ties]))

    def __eq__(self, other):
        return isinstance(other, Web) and self.kinds == other.kinds and self.ties == other.ties

    def __str__(self):
        return f"{row_text(self.kinds)} : {rows_text(self.ties)}"

    def part(self, points):
        """The web of these points, numbered in this order, with all ties between them."""
        require_points(points, self.points, "points")
        if len(points) == 0:
            raise BadLot("points")
        places = {point: at for at, point in enumerate(points)}
        kinds = [self.kinds[point] for point in points]
        ties = [(places[one], places[two], sort) for one, two, sort in self.ties if one in places and two in places]
        return Web(kinds, ties)

    def in_order(self, points):
        """The same web, its points numbered in this order."""
        told = self.part(points)
        if told.points < self.points:
            raise Misfit("points")
        return told

    def tie_numbers(self, points):
        """The numbers of the ties between these points."""
        require_points(points, self.points, "points")
        return tuple([at for at, tie in enumerate(self.ties) if tie[0] in points and tie[1] in points])

    def without_ties(self, numbers):
        """The web without the ties of these numbers."""
        require_ties(numbers, len(self.ties), "numbers")
        return Web(self.kinds, [tie for at, tie in enumerate(self.ties) if at not in numbers])

    def with_tie(self, point, other, sort):
        """The web with a tie more."""
        require_point(point, self.points)
        require_point(other, self.points)
        if point == other:
            raise Twice(point)
        require_number(sort, 0, LAST_SORT, "sort")
        # The new tie stands last, so that Web tells it, as it was passed, if it is there already.
        return Web(self.kinds, self.ties + ((point, other, sort),))

    def beside(self, other):
        """The web of all points and ties of both, those of the other one numbered behind."""
        if not isinstance(other, Web):
            raise BadWeb("other")
        behind = [(one + self.points, two + self.points, sort) for one, two, sort in other.ties]
        return Web(self.kinds + other.kinds, self.ties + tuple(behind))

    @staticmethod
    def all_tied(points, kind=0, sort=0):
        """So many points, each two of them tied."""
        require_number(points, 1, MOST_POINTS, "points")
        require_look(kind, sort)
        return Web([kind] * points, [(one, two, sort) for two in range(points) for one in range(two)])

    @staticmethod
    def way(ties, kind=0, sort=0):
        """So many ties in a row."""
        require_number(ties, 0, MOST_POINTS - 1, "ties")
        require_look(kind, sort)
        return Web([kind] * (ties + 1), way_ties(ties, sort))

    @staticmethod
    def ring(points, kind=0, sort=0):
        """So many points in a row, the last one tied to the first one, too."""
        require_number(points, 3, MOST_POINTS, "points")
        require_look(kind, sort)
        return Web([kind] * points, way_ties(points - 1, sort) + [(0, points - 1, sort)])

    @staticmethod
    def read(text):
        """The web whose text this is."""
        return read_web(Reader(items_of(text), 0))


def read_web(reader):
    """The web that the items ahead of the reader tell, to the last one."""
    kinds = [reader.take_integer(0, LAST_KIND)]
    while len(kinds) < MOST_POINTS and not reader.sees(":"):
        kinds.append(reader.take_integer(0, LAST_KIND))
    reader.take_word(":")
    ties = read_ties(reader, len(kinds))
    reader.take_end()
    return Web(kinds, ties)


def read_ties(reader, points):
    """The ties between so many points; behind the last one that can be no stroke is taken."""
    if reader.sees("-"):
        reader.take_word("-")
        return []
    last_of_all = (points - 2, points - 1, LAST_SORT)
    ties = [read_tie(reader, points, AHEAD_OF_ALL)]
    while len(ties) < MOST_TIES and ties[-1] < last_of_all and reader.sees("/"):
        reader.take_word("/")
        ties.append(read_tie(reader, points, ties[-1]))
    return ties


def read_tie(reader, points, ahead):
    """A tie that comes behind the one ahead; an item stands only if such a tie begins with it."""
    most = points - 1
    first, second, last = ahead
    point = reader.take_integer(first if (second, last) < (most, LAST_SORT) else first + 1, most - 1)
    if point > first:
        other = reader.take_integer(point + 1, most)
        return (point, other, reader.take_integer(0, LAST_SORT))
    other = reader.take_integer(second if last < LAST_SORT else second + 1, most)
    return (point, other, reader.take_integer(0 if other > second else last + 1, LAST_SORT))


def fits(book, web):
    """Whether the web fits the book."""
    if not isinstance(book, Book):
        raise BadBook("book")
    if not isinstance(web, Web):
        raise BadWeb("web")
    if not all([kind < len(book.sizes) for kind in web.kinds]):
        return False
    return all([tie_fits(book, web, tie) for tie in web.ties])


def tie_fits(book, web, tie):
    """Whether the sort of the tie is in the book, and joins the kinds of its points."""
    point, other, sort = tie
    if sort >= len(book.sorts):
        return False
    one, two = web.kinds[point], web.kinds[other]
    return book.sorts[sort][:2] == (min(one, two), max(one, two))
