"""Towns: told stores of one kind and one sort."""

from thincoins.checks import is_list, is_within
from thincoins.errors import BadTown, TooMany, Twice
from thincoins.looking import holds_closed, require_answerable
from thincoins.sights import things_by_views, views_of

MOST_THINGS = 40


def is_pair(value, things):
    """Whether it is a pair of two unlike things, of so many."""
    if not is_list(value) or len(value) != 2:
        return False
    return all([is_within(one, 0, things - 1) for one in value]) and value[0] != value[1]


def lower_first(pair):
    """The pair with its lower thing first."""
    return (min(pair), max(pair))


def require_unlike_pairs(pairs):
    """No pair equals one ahead of it, either way about."""
    seen = {}
    for pair in pairs:
        tie = lower_first(pair)
        if tie in seen:
            raise Twice(pair)
        seen[tie] = True


def require_town(value, name):
    """A town."""
    if not isinstance(value, Town):
        raise BadTown(name)


class Town:
    """So many things, and the ties between them."""

    def __init__(self, things, ties=()):
        if not is_within(things, 1, MOST_THINGS):
            raise BadTown("things")
        if not is_list(ties) or not all([is_pair(tie, things) for tie in ties]):
            raise BadTown("ties")
        require_unlike_pairs(ties)
        self.things = things
        self.ties = tuple(sorted([lower_first(tie) for tie in ties]))

    def __eq__(self, other):
        return isinstance(other, Town) and self.things == other.things and self.ties == other.ties

    def beside(self, other):
        """The town of both, the things of the other one numbered behind."""
        require_town(other, "other")
        if self.things + other.things > MOST_THINGS:
            raise TooMany("things", MOST_THINGS)
        behind = [(one + self.things, its + self.things) for one, its in other.ties]
        return Town(self.things + other.things, self.ties + tuple(behind))


def holds(town, question):
    """Whether the closed question holds in the town."""
    require_town(town, "town")
    require_answerable(question)
    # With three looks at most a town answers as its views do, and these are soon gone through.
    return holds_closed(question, things_by_views(views_of(town.things, town.ties)))
