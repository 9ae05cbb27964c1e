"""The lines of a desk as the tables tell them, and lines of every form."""

from tests.asked import made_items
from tests.making import made_book, made_web

DEED_TABLE = (
    "book BOOK", "size N N", "thin N N", "web NEW WEB", "tied NEW N", "ring NEW N", "way NEW N", "tie NAME N N N",
    "strike NAME N ..", "beside NEW NAME OTHER", "glue NEW NAME OTHER N N", "part NEW NAME N ..", "drop NAME",
)
ASK_TABLE = (
    "names", "show NAME", "told", "laid NAME OTHER", "alike NAME OTHER", "weight NAME", "comes NAME", "heavy NAME",
    "struck NAME", "dial NAME N", "bounds NAME N", "round NAME N ..", "hull NAME N ..", "friends N N ..", "mutual", "farthest",
    "tree", "asked QUESTION",
)
WANT_BOOK = (
    "size thin told weight comes heavy struck dial bounds round hull friends mutual farthest tree asked".split()
)
NAMES = ("a", "b", "c", "a", "b", "c", "z" * 12)


def first_of(row):
    """The first item of a row of a table."""
    return row.split(" ")[0]


def forms_of(word):
    """The forms behind a first item; `..` belongs to the one ahead of it."""
    row = next(row for row in DEED_TABLE + ASK_TABLE if first_of(row) == word)
    return row.replace(" ..", "..").split(" ")[1:]


def made_number(chance):
    """An integer from 0 on, small ones more often."""
    return str(chance.choice((0, 0, 0, 0, 0, 1, 1, 1, 2, 2, 2, 3, 3, 4, 5, 6, 12, 24, 10 ** 6, 10 ** 59)))


def made_form(chance, form):
    """Items of this form."""
    if form == "N":
        return made_number(chance)
    if form == "N..":
        return " ".join(made_number(chance) for _ in range(chance.randint(1, 4)))
    if form == "BOOK":
        return str(made_book(chance))
    if form == "WEB":
        return str(made_web(chance, made_book(chance)))
    if form == "QUESTION":
        return " ".join(made_items(chance, [], 3, 30))
    return chance.choice(NAMES + ("d", "e") if form == "NEW" else NAMES)


def made_line(chance, word):
    """A line with this first item."""
    return " ".join([word] + [made_form(chance, form) for form in forms_of(word)])
