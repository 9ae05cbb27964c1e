"""Books: the sizes of the kinds, and the sorts of ties with their thinnesses."""

from thincoins.checks import is_list, is_within
from thincoins.errors import BadBook, TooMany
from thincoins.numbered import require_kind, require_number, require_sort
from thincoins.texts import Reader, items_of, row_text, rows_text

MOST_KINDS = 3
MOST_SORTS = 4
MOST_SIZE = 12
MOST_THINNESS = 24
LEAST_M = 2
MOST_M = 1000000


def are_sizes(value):
    """Whether it is a list of sizes, one at least."""
    return is_list(value) and len(value) > 0 and all([is_within(one, 1, MOST_SIZE) for one in value])


def is_sort(value, kinds):
    """Whether it is a triple of two of so many kinds and a thinness."""
    if not is_list(value) or len(value) != 3:
        return False
    kind, other, thinness = value
    if not is_within(kind, 0, kinds - 1) or not is_within(other, 0, kinds - 1):
        return False
    return is_within(thinness, 1, MOST_THINNESS)


def lower_kind_first(sort):
    """The triple of a sort with its lower kind first."""
    kind, other, thinness = sort
    return (min(kind, other), max(kind, other), thinness)


class Book:
    """Kinds with their sizes, sorts with their two kinds and their thinness."""

    def __init__(self, sizes, sorts=()):
        if not are_sizes(sizes):
            raise BadBook("sizes")
        if not is_list(sorts) or not all([is_sort(sort, len(sizes)) for sort in sorts]):
            raise BadBook("sorts")
        if len(sizes) > MOST_KINDS:
            raise TooMany("kinds", MOST_KINDS)
        if len(sorts) > MOST_SORTS:
            raise TooMany("sorts", MOST_SORTS)
        self.sizes = tuple(sizes)
        self.sorts = tuple([lower_kind_first(sort) for sort in sorts])
        self.is_plain = len(sizes) == 1 and len(sorts) == 1

    def __eq__(self, other):
        return isinstance(other, Book) and self.sizes == other.sizes and self.sorts == other.sorts

    def __str__(self):
        return f"{row_text(self.sizes)} : {rows_text(self.sorts)}"

    def with_size(self, kind, size):
        """The book in which this kind has this size."""
        require_kind(kind, len(self.sizes))
        require_number(size, 1, MOST_SIZE, "size")
        sizes = list(self.sizes)
        sizes[kind] = size
        return Book(sizes, self.sorts)

    def with_thinness(self, sort, thinness):
        """The book in which this sort has this thinness."""
        require_sort(sort, len(self.sorts))
        require_number(thinness, 1, MOST_THINNESS, "thinness")
        kind, other, _ = self.sorts[sort]
        sorts = list(self.sorts)
        sorts[sort] = (kind, other, thinness)
        return Book(self.sizes, sorts)

    def with_sort(self, kind, its, thinness):
        """The book with a sort more, the last one."""
        require_kind(kind, len(self.sizes))
        require_kind(its, len(self.sizes))
        require_number(thinness, 1, MOST_THINNESS, "thinness")
        return Book(self.sizes, self.sorts + ((kind, its, thinness),))

    def things_at(self, kind, m):
        """How many things of this kind there are at m."""
        require_kind(kind, len(self.sizes))
        require_number(m, LEAST_M, MOST_M, "m")
        things = 1
        for _ in range(self.sizes[kind]):
            things = things * m
        return things

    @staticmethod
    def read(text):
        """The book whose text this is."""
        return read_book(Reader(items_of(text), 0))


def read_book(reader):
    """The book that the items ahead of the reader tell, to the last one."""
    sizes = [reader.take_integer(1, MOST_SIZE)]
    while len(sizes) < MOST_KINDS and not reader.sees(":"):
        sizes.append(reader.take_integer(1, MOST_SIZE))
    reader.take_word(":")
    sorts = read_sorts(reader, len(sizes))
    reader.take_end()
    return Book(sizes, sorts)


def read_sorts(reader, kinds):
    """The sorts of so many kinds; behind the last one that can be no stroke is taken."""
    if reader.sees("-"):
        reader.take_word("-")
        return []
    sorts = [read_sort(reader, kinds)]
    while len(sorts) < MOST_SORTS and reader.sees("/"):
        reader.take_word("/")
        sorts.append(read_sort(reader, kinds))
    return sorts


def read_sort(reader, kinds):
    """One sort; its lower kind stands first."""
    kind = reader.take_integer(0, kinds - 1)
    other = reader.take_integer(kind, kinds - 1)
    thinness = reader.take_integer(1, MOST_THINNESS)
    return (kind, other, thinness)
