"""What the parts of a web weigh in a book, with some sorts of ties left aside."""

from thincoins.lots import lots_of


def rest_of(book, web, lot, turned):
    """The pair (rest, counts): the sizes of the lot less the thinnesses of its ties that are of
    no turned sort, and how many ties of each turned sort it has. The weight is the rest with no
    sort turned."""
    rest = 0
    counts = [0] * len(turned)
    for point in lot:
        rest += book.sizes[web.kinds[point]]
    for point, other, sort in web.ties:
        if point not in lot or other not in lot:
            continue
        if sort in turned:
            counts[turned.index(sort)] += 1
        else:
            rest -= book.sorts[sort][2]
    return (rest, tuple(counts))


def part_rests(book, web, turned):
    """The triple (part, rest, counts) of each part, in order."""
    rows = []
    for part in lots_of(web.points)[1:]:
        rest, counts = rest_of(book, web, part, turned)
        rows.append((part, rest, counts))
    return rows


def lot_weight(book, web, lot):
    """The weight of a lot of points, told in any order."""
    return rest_of(book, web, lot, ())[0]


def part_weights(book, web):
    """The pair (part, weight) of each part, in order."""
    return [(part, lot_weight(book, web, part)) for part in lots_of(web.points)[1:]]


def least_lots(rows):
    """The triple (weight, least, greatest) of (lot, weight) rows, in order, of all lots of some points:
    the least weight, the lot within all others that have it, and the one that has them within."""
    least = min([row[1] for row in rows])
    # With two lots of least weight both joined and what they share have it, too.
    lots = [row[0] for row in rows if row[1] == least]
    return (least, lots[0], lots[-1])
