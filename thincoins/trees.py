"""Trees: towns that hang together by one tie fewer than they have things."""

from thincoins.errors import TooMany
from thincoins.numbered import require_number
from thincoins.towns import MOST_THINGS, Town

MOST_IN_TREE = 6
MOST_COPIES = 40


def code_from(ties, thing, back):
    """The tree as it is seen from a thing, but for the one that it is seen from, as brackets."""
    ends = [tie for tie in ties if thing in tie]
    others = [one + other - thing for one, other in ends]
    return "(" + "".join(sorted([code_from(ties, other, thing) for other in others if other != back])) + ")"


def code_of(things, ties):
    """A string that is the same for just the trees that are one but for the numbers of their things."""
    return min([code_from(ties, thing, None) for thing in range(things)])


def tree_rows(things):
    """Ties of trees of so many things, ascending; among them are the least ties of each tree."""
    # If a tree has the least ties, its things stand as they are met on the way from thing 0: first those
    # tied to 0, then the further ones tied to 1, and so on; so the things that they hang on never fall.
    rows = [()]
    for thing in range(1, things):
        rows = [row + (back,) for row in rows for back in range(max(row, default=0), thing)]
    return [tuple([(back, at + 1) for at, back in enumerate(row)]) for row in rows]


def trees(most):
    """Yields each tree of 1 to most things once, with the least ties; fewer things first."""
    require_number(most, 1, MOST_IN_TREE, "most")
    for things in range(1, most + 1):
        seen = {}
        for ties in tree_rows(things):
            code = code_of(things, ties)
            if code not in seen:
                seen[code] = True
                yield Town(things, ties)


def thin_town(most, copies):
    """The town of so many copies of each tree of 1 to most things, tree by tree."""
    require_number(most, 1, MOST_IN_TREE, "most")
    require_number(copies, 1, MOST_COPIES, "copies")
    things, ties = 0, []
    for tree in trees(most):
        for _ in range(copies):
            ties.extend([(things + one, things + other) for one, other in tree.ties])
            things += tree.things
    if things > MOST_THINGS:
        raise TooMany("things", MOST_THINGS)
    return Town(things, ties)
