"""Whether a paper about a greatest number is right."""

from thincoins.farthest import Apart, Steps, farthest
from thincoins.friends import Level, Most, MostBreak, Power, friends, lot_rows
from thincoins.lots import is_part
from thincoins.mutual import mutual
from thincoins.same import are_same_numbers


def shows_friends(book, kind, sorts, value):
    """Whether the value is a right Power, Level, Most or MostBreak of friends."""
    right = friends(book, kind, sorts)
    if isinstance(value, Power) and value.__class__.__name__ == "Power":
        return right.word == "power" and are_same_numbers(value.parts, right.parts)
    if isinstance(value, Level) and value.__class__.__name__ == "Level":
        return right.word == "level"
    if isinstance(value, Most) and value.__class__.__name__ == "Most":
        return right.word == "most" and has_lot(sorts, value, right) and beyond_room(book, kind, sorts, value) > 0
    if isinstance(value, MostBreak) and value.__class__.__name__ == "MostBreak":
        return right.word == "mostbreak" and has_lot(sorts, value, right) and beyond_room(book, kind, sorts, value) == 0
    return False


def has_lot(sorts, value, right):
    """Whether a Most or a MostBreak has the number of the right one, and some lot of names."""
    return are_same_numbers(value.number, right.number) and is_part(value.lot, len(sorts))


def beyond_room(book, kind, sorts, value):
    """What its lot is over by for one friend more than its number, less the sizes of the lot."""
    rows = [row for row in lot_rows(book, kind, sorts) if row[0] == value.lot]
    _, its, room = rows[0]
    return (value.number + 1) * its - room


def shows_mutual(book, value):
    """Whether the value is the Most or the MostBreak of mutually tied things."""
    right = mutual(book)
    if isinstance(value, Most) and value.__class__.__name__ == "Most":
        return right.word == "most" and is_of_number(value, right)
    if isinstance(value, MostBreak) and value.__class__.__name__ == "MostBreak":
        return right.word == "mostbreak" and is_of_number(value, right)
    return False


def is_of_number(value, right):
    """Whether a Most or a MostBreak has the number of the right one, and no lot."""
    return value.lot is None and are_same_numbers(value.number, right.number)


def shows_farthest(book, value):
    """Whether the value is the Steps or the Apart of the farthest two."""
    right = farthest(book)
    if isinstance(value, Steps) and value.__class__.__name__ == "Steps":
        return right.word == "steps" and are_same_numbers(value.parts, right.parts)
    if isinstance(value, Apart) and value.__class__.__name__ == "Apart":
        return right.word == "apart"
    return False
