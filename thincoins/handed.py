"""Handings: what each tie hands to its two ends, so that no point gets more than it has room for."""

from thincoins.checks import are_integers, is_list


class Handing:
    """Amounts on their way; at first each tie hands all it has to its lower point."""

    def __init__(self, ties, amounts, rooms):
        self.ends = tuple([(tie[0], tie[1]) for tie in ties])
        self.given = [[amount, 0] for amount in amounts]
        self.rooms = tuple(rooms)
        self.got = [0] * len(self.rooms)
        for at, amount in enumerate(amounts):
            self.got[self.ends[at][0]] += amount

    def excess(self, point):
        """How much more than it has room for the point gets."""
        return self.got[point] - self.rooms[point]

    def steps_from(self, point):
        """The triples (tie, side, other end) of the ties that hand something to the point."""
        steps = []
        for tie, ends in enumerate(self.ends):
            if point in ends:
                side = ends.index(point)
                if self.given[tie][side] > 0:
                    steps.append((tie, side, ends[1 - side]))
        return steps

    def way_to_room(self, start):
        """The (tie, side) pairs of a shortest row of ties to a point with room, and this point."""
        ways = {start: ()}
        queue = [start]
        at = 0
        while at < len(queue):
            point = queue[at]
            at += 1
            for tie, side, other in self.steps_from(point):
                if other not in ways:
                    ways[other] = ways[point] + ((tie, side),)
                    queue.append(other)
                    if self.excess(other) < 0:
                        return (ways[other], other)
        return None

    def move(self, start, way, end):
        """Hands as much as goes along the way from its start to its end."""
        amount = min(self.excess(start), -self.excess(end))
        for tie, side in way:
            amount = min(amount, self.given[tie][side])
        for tie, side in way:
            self.given[tie][side] -= amount
            self.given[tie][1 - side] += amount
        self.got[start] -= amount
        self.got[end] += amount


def handing_of(ties, amounts, rooms):
    """A pair for each tie that adds up to its amount, with no point above its room, or None."""
    handing = Handing(ties, amounts, rooms)
    for point in range(len(handing.rooms)):
        while handing.excess(point) > 0:
            found = handing.way_to_room(point)
            if found is None:
                return None
            way, end = found
            handing.move(point, way, end)
    return tuple([(lower, other) for lower, other in handing.given])


def is_split(value, amount):
    """Whether any value is a pair of integers from 0 on that add up to the amount."""
    if not are_integers(value) or len(value) != 2:
        return False
    return value[0] >= 0 and value[1] >= 0 and value[0] + value[1] == amount


def is_handing(value, ties, amounts, rooms):
    """Whether any value tells a pair for each tie, with no point above its room."""
    if not is_list(value) or len(value) != len(ties):
        return False
    got = [0] * len(rooms)
    for at, pair in enumerate(value):
        if not is_split(pair, amounts[at]):
            return False
        got[ties[at][0]] += pair[0]
        got[ties[at][1]] += pair[1]
    return all([got[point] <= rooms[point] for point in range(len(rooms))])
