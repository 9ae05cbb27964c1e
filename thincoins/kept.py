"""What a line of a desk needs: a book, webs that are kept, and a name that is free."""

from thincoins.desk_lines import FORMS
from thincoins.errors import Nothing, Twice

WITH_BOOK = (
    "size", "thin", "told", "weight", "comes", "heavy", "struck", "dial", "bounds", "round", "hull", "friends",
    "mutual", "farthest", "tree", "asked",
)


def require_kept(shelf, told):
    """A book if the line that was read needs one; then webs under its names; then none under a new one."""
    if told[0] in WITH_BOOK and shelf.book is None:
        raise Nothing()
    # Names stand ahead of all forms that are more than one item.
    forms = list(enumerate(FORMS[told[0]]))
    for at, form in forms:
        if form == "NAME":
            shelf.web(told[at + 1])
    for at, form in forms:
        if form == "NEW" and told[at + 1] in shelf.names:
            raise Twice(told[at + 1])
