"""Stories of desks: told to a new desk, and compared."""

from thincoins.checks import is_list
from thincoins.desk import Desk
from thincoins.desk_lines import ASKS, has_first_of
from thincoins.errors import BadDesk, BadLine, BadText


def require_desk(value, name):
    """A desk."""
    if not isinstance(value, Desk):
        raise BadDesk(name)


def replay(lines):
    """A new desk that is told these deed lines."""
    if not is_list(lines) or not all([isinstance(line, str) for line in lines]):
        raise BadDesk("lines")
    asks = [at for at, line in enumerate(lines) if has_first_of(line, ASKS)]
    deeds = lines[:asks[0]] if len(asks) > 0 else lines
    desk = Desk()
    desk.told(*deeds)
    if len(asks) > 0:
        raise BadLine(asks[0], BadText(0, 0))
    return desk


def parting(one, other):
    """How many lines the stories of both desks begin with alike."""
    require_desk(one, "one")
    require_desk(other, "other")
    many = 0
    while many < len(one.story) and many < len(other.story) and one.story[many] == other.story[many]:
        many += 1
    return many
