"""Whether a paper about all placings at once is right."""

from thincoins.checks import compared, is_within
from thincoins.placings import Sums, sums
from thincoins.same import are_same_numbers
from thincoins.tails import MOST_TERMS, Below, NotBelow, lacks_at_most, require_terms_for


def shows_sums(book, web, names, m, value):
    """Whether the value is the Sums of the rest."""
    right = sums(book, web, names, m)
    if isinstance(value, Sums) and value.__class__.__name__ == "Sums":
        return are_same_numbers(value.parts, right.parts)
    return False


def shows_terms(book, web, names, m, share, value):
    """Whether the value is a right Below or the NotBelow."""
    require_terms_for(book, web, names, m, share)
    if isinstance(value, Below) and value.__class__.__name__ == "Below":
        if not is_within(value.terms, 0, MOST_TERMS):
            return False
        right = lacks_at_most(book, web, names, m, value.terms)
        return are_same_numbers(value.bound, right) and compared(right, share) < 0
    if isinstance(value, NotBelow) and value.__class__.__name__ == "NotBelow":
        right = lacks_at_most(book, web, names, m, MOST_TERMS)
        return are_same_numbers(value.bound, right) and compared(right, share) >= 0
    return False
