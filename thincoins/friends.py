"""How many friends some names have at most, of all names that there are."""

from thincoins.errors import BadLot, Misfit, TooMany
from thincoins.lots import lots_of
from thincoins.numbered import require_kind, require_list, require_number, require_sort
from thincoins.papers import Denial, Paper
from thincoins.required import require_book
from thincoins.webs import MOST_POINTS, Web

MOST_NAMES = 5


class Power(Paper):
    """All names have about m to this weight friends."""

    def __init__(self, weight):
        super().__init__("power", weight)
        self.weight = self.parts[0]


class Most(Paper):
    """The greatest number, and a lot that bars one more."""

    def __init__(self, number, lot):
        super().__init__("most", number, lot)
        self.number = self.parts[0]
        self.lot = self.parts[1]


class MostBreak(Denial):
    """The number or one more, which is on a break: a lot that is level with one more."""

    def __init__(self, number, lot):
        super().__init__("mostbreak", number, lot)
        self.number = self.parts[0]
        self.lot = self.parts[1]


class Level(Denial):
    """The weight of friends is 0."""

    def __init__(self):
        super().__init__("level")


def require_sorts(book, kind, sorts):
    """A book, a kind, and sorts of the book in a row, one at least; one may be told again."""
    require_book(book, "book")
    require_kind(kind, len(book.sizes))
    require_list(sorts, "sorts")
    if len(sorts) == 0:
        raise BadLot("sorts")
    for sort in sorts:
        require_sort(sort, len(book.sorts))


def require_joining(book, kind, sorts):
    """Each sort joins the kind, then not too many of them."""
    if not all([kind in book.sorts[sort][:2] for sort in sorts]):
        raise Misfit("sorts")
    if len(sorts) > MOST_NAMES:
        raise TooMany("sorts", MOST_NAMES)


def other_kind(book, kind, sort):
    """The kind that the sort joins with this one."""
    lower, upper, _ = book.sorts[sort]
    return upper if lower == kind else lower


def over_of(book, kind, sorts):
    """The thinnesses of these sorts less the size of the kind."""
    return sum([book.sorts[sort][2] for sort in sorts]) - book.sizes[kind]


def lot_rows(book, kind, sorts):
    """The triple (lot, over, room) of each lot of names, in order: what it is over by, and the sizes
    of its kinds; it bars as many friends as times over are above its room."""
    rows = []
    for lot in lots_of(len(sorts))[1:]:
        told = [sorts[name] for name in lot]
        room = sum([book.sizes[other_kind(book, kind, sort)] for sort in told])
        rows.append((lot, over_of(book, kind, told), room))
    return rows


def friends(book, kind, sorts):
    """The Power, the Level, the Most with the first lot that bars one more, or the MostBreak with the
    first lot that is level with one more."""
    require_sorts(book, kind, sorts)
    require_joining(book, kind, sorts)
    over = over_of(book, kind, sorts)
    if over < 0:
        return Power(-over)
    if over == 0:
        return Level()
    rows = lot_rows(book, kind, sorts)
    more = 1
    while all([more * its < room for _, its, room in rows]):
        more += 1
    barring = [lot for lot, its, room in rows if more * its > room]
    if len(barring) > 0:
        return Most(more - 1, barring[0])
    level = [lot for lot, its, room in rows if more * its == room]
    return MostBreak(more - 1, level[0])


def friends_web(book, kind, sorts, many):
    """The web of so many friends: the names, then the friends."""
    require_sorts(book, kind, sorts)
    require_number(many, 0, None, "many")
    require_joining(book, kind, sorts)
    names = len(sorts)
    if names + many > MOST_POINTS:
        raise TooMany("points", MOST_POINTS)
    kinds = [other_kind(book, kind, sort) for sort in sorts] + [kind] * many
    return Web(kinds, [(at, names + its, sort) for at, sort in enumerate(sorts) for its in range(many)])
