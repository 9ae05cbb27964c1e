"""The lines of a desk: what stands behind their first items, and how they are read."""

from thincoins.books import read_book
from thincoins.questions import read_question
from thincoins.texts import Reader, items_of
from thincoins.webs import read_web

DEEDS = (
    "book", "size", "thin", "web", "tied", "ring", "way", "tie", "strike", "beside", "glue", "part", "drop",
)
ASKS = (
    "names", "show", "told", "laid", "alike", "weight", "comes", "heavy", "struck", "dial", "bounds", "round",
    "hull", "friends", "mutual", "farthest", "tree", "asked",
)
FORMS = {
    "book": ("BOOK",),
    "size": ("N", "N"),
    "thin": ("N", "N"),
    "web": ("NEW", "WEB"),
    "tied": ("NEW", "N"),
    "ring": ("NEW", "N"),
    "way": ("NEW", "N"),
    "tie": ("NAME", "N", "N", "N"),
    "strike": ("NAME", "N .."),
    "beside": ("NEW", "NAME", "NAME"),
    "glue": ("NEW", "NAME", "NAME", "N", "N"),
    "part": ("NEW", "NAME", "N .."),
    "drop": ("NAME",),
    "names": (),
    "show": ("NAME",),
    "told": (),
    "laid": ("NAME", "NAME"),
    "alike": ("NAME", "NAME"),
    "weight": ("NAME",),
    "comes": ("NAME",),
    "heavy": ("NAME",),
    "struck": ("NAME",),
    "dial": ("NAME", "N"),
    "bounds": ("NAME", "N"),
    "round": ("NAME", "N .."),
    "hull": ("NAME", "N .."),
    "friends": ("N", "N .."),
    "mutual": (),
    "farthest": (),
    "tree": (),
    "asked": ("QUESTION",),
}


def take_row(reader):
    """Takes integers from 0 on, one at least, to the end of the line."""
    row = [reader.take_integer(0, None)]
    while not reader.is_at_end():
        row.append(reader.take_integer(0, None))
    return row


def take_form(reader, form):
    """Takes the next items, of this form; returns the list of what they stand for."""
    if form == "N":
        return [reader.take_integer(0, None)]
    if form == "N ..":
        return take_row(reader)
    if form == "BOOK":
        return [read_book(reader)]
    if form == "WEB":
        return [read_web(reader)]
    if form == "QUESTION":
        return [read_question(reader)]
    return [reader.take_name()]


def read_line_of(line, firsts):
    """What a line tells that has one of these first items."""
    reader = Reader(items_of(line), 0)
    told = [reader.take_one_of(firsts)]
    for form in FORMS[told[0]]:
        told = told + take_form(reader, form)
    reader.take_end()
    return tuple(told)


def read_line(line):
    """The first item of the line, and what the others stand for."""
    return read_line_of(line, DEEDS + ASKS)


def has_first_of(line, firsts):
    """Whether any value is a string that has one of these first items."""
    return isinstance(line, str) and items_of(line)[0] in firsts
