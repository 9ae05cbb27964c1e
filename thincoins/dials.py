"""How thin one sort may be for a web to come."""

from thincoins.checks import is_ratio, lowest
from thincoins.errors import BadRatio
from thincoins.numbered import require_sort
from thincoins.papers import Denial, Paper
from thincoins.required import require_book, require_fit, require_web
from thincoins.rests import part_rests


class Dial(Paper):
    """The web comes exactly below this thinness; the part is level there."""

    def __init__(self, ratio, part):
        super().__init__("dial", ratio, part)
        self.ratio = self.parts[0]
        self.part = self.parts[1]


class Any(Paper):
    """The web has no tie of the sort, and comes."""

    def __init__(self):
        super().__init__("any")


class Barred(Denial):
    """The web comes with no thinness: a barring part."""

    def __init__(self, part):
        super().__init__("barred", part)
        self.part = self.parts[0]


def first_barring(rests):
    """The first part whose rest is 0 or less, or None."""
    for part, rest, _ in rests:
        if rest <= 0:
            return part
    return None


def break_of(rests):
    """The least ratio of a rest by its ties of the sort, and the first part with it; None if no
    part has such ties."""
    least = None
    for part, rest, counts in rests:
        count = counts[0]
        if count > 0 and (least is None or rest * least[1] < least[0] * count):
            least = (rest, count, part)
    if least is None:
        return None
    return (lowest(least[0], least[1]), least[2])


def dial(book, web, sort):
    """The Dial of the break, the Any, or the Barred of the first barring part."""
    require_book(book, "book")
    require_web(web, "web")
    require_sort(sort, len(book.sorts))
    require_fit(book, web)
    rests = part_rests(book, web, (sort,))
    barring = first_barring(rests)
    if barring is not None:
        return Barred(barring)
    found = break_of(rests)
    if found is None:
        return Any()
    ratio, part = found
    return Dial(ratio, part)


def comes_at(book, web, sort, ratio):
    """Whether the web comes, is rare or is on a break with this thinness of the sort."""
    require_book(book, "book")
    require_web(web, "web")
    require_sort(sort, len(book.sorts))
    if not is_ratio(ratio) or ratio[0] <= 0:
        raise BadRatio("ratio")
    require_fit(book, web)
    # Weights by the lower number of the ratio are integers, and their signs are the same.
    weights = [rest * ratio[1] - counts[0] * ratio[0] for _, rest, counts in part_rests(book, web, (sort,))]
    least = min(weights)
    if least < 0:
        return "rare"
    return "break" if least == 0 else "comes"
