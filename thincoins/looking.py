"""Questions answered by looks: what can be placed next, behind what was placed ahead."""

from thincoins.errors import Misfit, TooMany
from thincoins.questions import require_question

MOST_LOOKS = 3
# Of two placed things; the first two are as in a sight, where 1 stands for tied.
NOT_TIED = 0
TIED = 1
SAME = 2


def require_closed(question):
    """A question without free names."""
    if not question.is_closed:
        raise Misfit("free")


def require_few_looks(question):
    """Not too many looks within one another."""
    if question.looks > MOST_LOOKS:
        raise TooMany("looks", MOST_LOOKS)


def require_answerable(question):
    """A closed question without too many looks."""
    require_question(question, "question")
    require_closed(question)
    require_few_looks(question)


def relation(rows, one, other):
    """How two placed things stand to one another; the row of each one tells it for all ahead of it."""
    if one == other:
        return SAME
    return rows[max(one, other)][min(one, other)]


def holds_among(tree, things, names, rows):
    """Whether the question holds. The things are those that can be placed next, as pairs (row, things
    behind it); the names tell which placing they keep, the rows how the placed things stand."""
    word = tree[0]
    if word == "tied":
        return relation(rows, names[tree[1]], names[tree[2]]) == TIED
    if word == "same":
        return relation(rows, names[tree[1]], names[tree[2]]) == SAME
    if word == "not":
        return not holds_among(tree[1], things, names, rows)
    if word == "and":
        return holds_among(tree[1], things, names, rows) and holds_among(tree[2], things, names, rows)
    if word == "or":
        return holds_among(tree[1], things, names, rows) or holds_among(tree[2], things, names, rows)
    kept = {**names, tree[1]: len(rows)}
    for row, behind in things:
        if holds_among(tree[2], behind, kept, rows + (row,)) == (word == "some"):
            return word == "some"
    return word == "all"


def holds_closed(question, things):
    """Whether the closed question holds where these things can be placed first."""
    return holds_among(question.tree, things, {}, ())
