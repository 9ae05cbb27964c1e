"""Views of towns, and questions with three looks answered by any views."""

from thincoins.checks import is_list, is_lot, is_within
from thincoins.errors import BadLot
from thincoins.looking import holds_closed, require_answerable
from thincoins.papers import fixed
from thincoins.sights import things_by_views, views_of
from thincoins.towns import require_town

MOST_VIEWS = 40
THIRDS = 4


def views_of_town(town):
    """The views of the town."""
    require_town(town, "town")
    return views_of(town.things, town.ties)


def is_sight(value):
    """Whether it is a pair of 0 or 1 and a lot of numbers of thirds."""
    return is_list(value) and len(value) == 2 and is_within(value[0], 0, 1) and is_lot(value[1], THIRDS)


def is_view(value):
    """Whether it is a list of sights, ascending, no two equal."""
    return is_list(value) and all([is_sight(one) for one in value]) and is_ascending(fixed(value))


def is_ascending(rows):
    """Whether each of the tuples is above the one ahead of it."""
    return all([rows[at - 1] < rows[at] for at in range(1, len(rows))])


def are_views(value):
    """Whether any value is a list of views, ascending, no two equal."""
    if not is_list(value) or not 1 <= len(value) <= MOST_VIEWS:
        return False
    return all([is_view(one) for one in value]) and is_ascending(fixed(value))


def answer(views, question):
    """Whether the closed question holds by these views."""
    if not are_views(views):
        raise BadLot("views")
    require_answerable(question)
    return holds_closed(question, things_by_views(fixed(views)))
