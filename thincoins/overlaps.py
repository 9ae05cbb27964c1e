"""The ways in which two layings of one web lie on one another, by what they share."""

from thincoins.webs import LAST_KIND, LAST_SORT


def rest_ties(web, names):
    """The ties that have an end without a name."""
    return [tie for tie in web.ties if tie[0] not in names or tie[1] not in names]


def kind_counts(web, points):
    """How many of these points there are of each kind."""
    counts = [0] * (LAST_KIND + 1)
    for point in points:
        counts[web.kinds[point]] += 1
    return tuple(counts)


def sort_counts(ties):
    """How many of these ties there are of each sort."""
    counts = [0] * (LAST_SORT + 1)
    for tie in ties:
        counts[tie[2]] += 1
    return tuple(counts)


def overlap_rows(web, names):
    """Rows that tell for each point the one whose thing it shares, or None; those with a name
    share their own things, the others only things of one another, unlike ones."""
    free = [point for point in range(web.points) if point not in names]
    rows = [()]
    for point in range(web.points):
        if point in names:
            rows = [row + (point,) for row in rows]
        else:
            places = [None] + [other for other in free if web.kinds[other] == web.kinds[point]]
            rows = [row + (place,) for row in rows for place in places if place is None or place not in row]
    return rows


def is_shared(there, row, tie):
    """Whether the things of both ends of the tie have a tie of this sort in the other laying."""
    one, two = row[tie[0]], row[tie[1]]
    if one is None or two is None:
        return False
    return (min(one, two), max(one, two), tie[2]) in there


def overlaps(web, names):
    """The sorted triples (points, ties, many): so many ways share so many points without a name of
    each kind and so many ties of each sort."""
    ties = rest_ties(web, names)
    there = {tie: True for tie in ties}
    counted = {}
    for row in overlap_rows(web, names):
        points = [point for point in range(web.points) if row[point] is not None and point not in names]
        shared = [tie for tie in ties if is_shared(there, row, tie)]
        key = (kind_counts(web, points), sort_counts(shared))
        counted[key] = counted.get(key, 0) + 1
    return sorted([(points, ties_shared, many) for (points, ties_shared), many in counted.items()])


def thinness_of(book, counts):
    """The thinnesses of so many ties of each sort, added up."""
    return sum([count * book.sorts[sort][2] for sort, count in enumerate(counts) if count > 0])
