"""Heavy parts of a web, and the fewest ties without which it comes."""

from thincoins.errors import TooMany
from thincoins.lots import lies_within, lots_of
from thincoins.required import require_fitting
from thincoins.rests import part_weights

MOST_TO_STRIKE = 10


def heavy_parts(book, web):
    """All heavy parts without a heavy one within, in order."""
    require_fitting(book, web)
    found = []
    # Shorter parts come first, so each part comes behind those within it.
    for part, weight in part_weights(book, web):
        if weight < 0 and not any([lies_within(other, part) for other in found]):
            found.append(part)
    return tuple(found)


def fewest_struck(book, web):
    """The first of the shortest lots of numbers of ties without which the web comes."""
    require_fitting(book, web)
    if len(web.ties) > MOST_TO_STRIKE:
        raise TooMany("ties", MOST_TO_STRIKE)
    needs = [(tie_costs(book, web, part), 1 - weight) for part, weight in part_weights(book, web) if weight < 1]
    lots = lots_of(len(web.ties))
    at = 0
    # The last lot strikes all ties, and without ties a web comes.
    while not are_met(needs, lots[at]):
        at += 1
    return lots[at]


def are_met(needs, lot):
    """Whether each part gains as much as it needs by striking the ties of the lot."""
    return all([sum([costs[tie] for tie in lot]) >= least for costs, least in needs])


def tie_costs(book, web, part):
    """How much the part gains by each tie that is struck; nothing by those that are not in it."""
    costs = []
    for point, other, sort in web.ties:
        costs.append(book.sorts[sort][2] if point in part and other in part else 0)
    return costs
