"""A web glued to another one by pairs of points."""

from thincoins.checks import is_list
from thincoins.errors import BadLot, Misfit, Twice
from thincoins.numbered import require_point
from thincoins.required import require_web
from thincoins.webs import Web, lower_point_first


def glued(web, other, pairs):
    """The web in which both points of each pair are one."""
    require_web(web, "web")
    require_web(other, "other")
    require_pairs(web, other, pairs)
    if not all([web.kinds[point] == other.kinds[its] for point, its in pairs]):
        raise Misfit("kinds")
    places = {its: point for point, its in pairs}
    behind = [its for its in range(other.points) if its not in places]
    for at, its in enumerate(behind):
        places[its] = web.points + at
    laid = [lower_point_first((places[one], places[two], sort)) for one, two, sort in other.ties]
    more = [tie for tie in laid if tie not in web.ties]
    return Web(web.kinds + tuple([other.kinds[its] for its in behind]), web.ties + tuple(more))


def require_pairs(web, other, pairs):
    """Pairs of a point of the web and one of the other; no point stands in two of them."""
    if not is_list(pairs) or not all([is_list(pair) and len(pair) == 2 for pair in pairs]):
        raise BadLot("pairs")
    for point, its in pairs:
        require_point(point, web.points)
        require_point(its, other.points)
    points, others = {}, {}
    for point, its in pairs:
        if point in points:
            raise Twice(point)
        if its in others:
            raise Twice(its)
        points[point] = True
        others[its] = True
