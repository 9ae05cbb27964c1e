"""Parts of webs, layings of a web on another one, and which webs are alike."""

from thincoins.lots import lots_of
from thincoins.papers import Denial, Paper
from thincoins.required import require_web


class Alike(Paper):
    """The webs are alike: the first laying of the one on the other."""

    def __init__(self, laying):
        super().__init__("alike", laying)
        self.laying = self.parts[0]


class Unlike(Denial):
    """The webs are unlike: in their points, their ties, or there is no laying."""

    def __init__(self, what):
        super().__init__("unlike", what)
        self.what = self.parts[0]


def parts(web):
    """All parts of the web, in order."""
    require_web(web, "web")
    return tuple(lots_of(web.points)[1:])


def layings(web, other):
    """All layings of the web on the other one, ascending."""
    require_web(web, "web")
    require_web(other, "other")
    there = {tie: True for tie in other.ties}
    rows = [()]
    for point in range(web.points):
        free = [place for place in range(other.points) if other.kinds[place] == web.kinds[point]]
        back = [(one, sort) for one, two, sort in web.ties if two == point]
        rows = [row + (place,) for row in rows for place in free if can_lie(there, row, place, back)]
    return tuple(rows)


def can_lie(there, row, place, back):
    """Whether the next point can lie at the place; back tells its ties to points that are laid."""
    if place in row:
        return False
    return all([(min(row[one], place), max(row[one], place), sort) in there for one, sort in back])


def many_layings(web, other):
    """How many layings of the web on the other one there are."""
    return len(layings(web, other))


def first_laying(web, other):
    """The first laying of the web on the other one, or None."""
    found = layings(web, other)
    return found[0] if len(found) > 0 else None


def turns(web):
    """How many layings on itself the web has."""
    return len(layings(web, web))


def alike(web, other):
    """Whether the webs are alike, with the first laying, or with what they are unlike in."""
    require_web(web, "web")
    require_web(other, "other")
    if sorted(web.kinds) != sorted(other.kinds):
        return Unlike("points")
    if sorted([tie[2] for tie in web.ties]) != sorted([tie[2] for tie in other.ties]):
        return Unlike("ties")
    laying = first_laying(web, other)
    if laying is None:
        return Unlike("layings")
    return Alike(laying)
