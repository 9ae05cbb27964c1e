"""Questions of many shapes, answered in a plain way: thing by thing, and placing by placing by views."""

import itertools
import random

NAMES = ("x", "y", "z")


def parsed(text):
    """The question as nested lists."""
    items = iter(text.split(" "))

    def take():
        word = next(items)
        if word in ("tied", "same"):
            return [word, next(items), next(items)]
        if word == "not":
            return [word, take()]
        if word in ("and", "or"):
            return [word, take(), take()]
        return [word, next(items), take()]

    return take()


def closed_room(names):
    """How many items a question needs that has no free names but these."""
    return 3 if names else 5


def made_items(chance, names, looks, room):
    """The items of a question without free names but these."""
    least = closed_room(names)
    words = ["tied", "same", "tied"] if names else []
    if looks and room >= 5:
        words += ["some", "all"] * 2
    if room > least and (names or looks):
        words += ["not"]
    if room > 2 * least:
        words += ["and", "or"] * 2
    word = chance.choice(words)
    if word in ("tied", "same"):
        return [word, chance.choice(names), chance.choice(names)]
    if word == "not":
        return [word] + made_items(chance, names, looks, room - 1)
    if word in ("some", "all"):
        name = chance.choice(NAMES)
        return [word, name] + made_items(chance, sorted({*names, name}), looks - 1, room - 2)
    first = made_items(chance, names, looks, room - 1 - least)
    return [word] + first + made_items(chance, names, looks, room - 1 - len(first))


def made_questions(many, seed=91, looks=3, room=40):
    """So many texts of closed questions."""
    chance = random.Random(seed)
    return [" ".join(made_items(chance, [], looks, room)) for _ in range(many)]


def pattern_questions():
    """Texts that ask of three unlike things how they are tied, each look being some, all or none."""
    found = []
    for first, second, third in itertools.product(("some x", "all x"), ("some y", "not some y"), ("some z", "not some z")):
        for one, two, both in itertools.product(("", "not "), repeat=3):
            found.append(
                f"{first} {second} and not same x y and {one}tied x y {third} and not same x z and not same y z "
                f"and {two}tied x z {both}tied y z"
            )
    return found


def plain_holds(things, ties, text):
    """Whether the closed question holds, each look going through all things."""
    tied = {pair for one, other in ties for pair in ((one, other), (other, one))}

    def holds(tree, names):
        word = tree[0]
        if word == "tied":
            return (names[tree[1]], names[tree[2]]) in tied
        if word == "same":
            return names[tree[1]] == names[tree[2]]
        if word == "not":
            return not holds(tree[1], names)
        if word == "and":
            return holds(tree[1], names) and holds(tree[2], names)
        if word == "or":
            return holds(tree[1], names) or holds(tree[2], names)
        found = [holds(tree[2], {**names, tree[1]: thing}) for thing in range(things)]
        return any(found) if word == "some" else all(found)

    return holds(parsed(text), {})


def placings_by_views(views, placed):
    """What can be placed next, as the document tells it."""
    if not placed:
        return [("view", view) for view in views]
    view = placed[0][1]
    if len(placed) == 1:
        return [("as", 0)] + [("by", sight) for sight in view]
    if placed[1] == ("as", 0):
        return [("as", 0), ("as", 1)] + [("by", sight) for sight in view]
    return [("as", 0), ("as", 1)] + [("third", number) for number in placed[1][1][1]]


def is_tied_by_views(placed, one, other):
    """Whether two placed things, told by their places, are tied; None if they are one thing."""
    while placed[one][0] == "as":
        one = placed[one][1]
    while placed[other][0] == "as":
        other = placed[other][1]
    if one == other:
        return None
    one, other = sorted((one, other))
    told, value = placed[other]
    if told == "by":
        return value[0] == 1
    return value in ((2, 3) if one == 0 else (1, 3))


def plain_by_views(views, text):
    """Whether the closed question holds by the views."""
    def holds(tree, names, placed):
        word = tree[0]
        if word in ("tied", "same"):
            told = is_tied_by_views(placed, names[tree[1]], names[tree[2]])
            return told is True if word == "tied" else told is None
        if word == "not":
            return not holds(tree[1], names, placed)
        if word == "and":
            return holds(tree[1], names, placed) and holds(tree[2], names, placed)
        if word == "or":
            return holds(tree[1], names, placed) or holds(tree[2], names, placed)
        kept = {**names, tree[1]: len(placed)}
        found = [holds(tree[2], kept, placed + [one]) for one in placings_by_views(views, placed)]
        return any(found) if word == "some" else all(found)

    return holds(parsed(text), {}, [])


def plain_views(things, ties, of=None):
    """The views of the things of a town, of these things alone if they are told."""
    near = [0] * things
    for one, other in ties:
        near[one] |= 1 << other
        near[other] |= 1 << one
    whole = (1 << things) - 1
    views = set()
    for one in range(things) if of is None else of:
        sights = set()
        for other in range(things):
            if other != one:
                rest = whole & ~(1 << one) & ~(1 << other)
                lots = (~near[one] & ~near[other], ~near[one] & near[other], near[one] & ~near[other], near[one] & near[other])
                sights.add((near[one] >> other & 1, tuple(at for at, lot in enumerate(lots) if lot & rest)))
        views.add(tuple(sorted(sights)))
    return tuple(sorted(views))


def code_of(ties, thing, back=None):
    """A tree as it is seen from a thing, as nested tuples."""
    near = [one + other - thing for one, other in ties if thing in (one, other)]
    return tuple(sorted(code_of(ties, other, thing) for other in near if other != back))


def grown_trees(things):
    """The ties of one of each tree of so many things, grown thing by thing."""
    found = [()]
    for thing in range(1, things):
        more = {}
        for ties in found:
            for back in range(thing):
                grown = ties + ((back, thing),)
                more[min(code_of(grown, one) for one in range(thing + 1))] = grown
        found = list(more.values())
    return found


def copies(rows, many):
    """The pair (things, ties) of so many copies of each of the (things, ties) pairs, beside one another."""
    things, told = 0, []
    for its, ties in rows:
        for _ in range(many):
            told += [(things + one, things + other) for one, other in ties]
            things += its
    return things, told


def made_ties(chance, things):
    """Some ties of a town."""
    pairs = list(itertools.combinations(range(things), 2))
    return chance.sample(pairs, chance.randint(0, len(pairs)))
