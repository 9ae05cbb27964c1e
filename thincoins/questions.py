"""Questions: what is asked of a store of one kind and one sort, with the names x, y and z."""

from thincoins.checks import first_twice, is_list
from thincoins.errors import BadQuestion, Misfit, TooMany, Twice
from thincoins.texts import Reader, items_of

MOST_ITEMS = 40
LEAST_ITEMS = 3
NAMES = ("x", "y", "z")
ATOMS = ("tied", "same")
JOINTS = ("and", "or")
LOOKS = ("some", "all")


def words_of(tree):
    """The items of a question that is told as a tree: its first item, then names or the trees behind it."""
    words = []
    for part in tree:
        words.extend([part] if isinstance(part, str) else words_of(part))
    return words


def is_free(tree, name):
    """Whether the name is free in the question."""
    if tree[0] in ATOMS:
        return name in tree[1:]
    if tree[0] in LOOKS:
        return tree[1] != name and is_free(tree[2], name)
    return any([is_free(part, name) for part in tree[1:]])


def looks_of(tree):
    """How many looks stand within one another at most."""
    if tree[0] in ATOMS:
        return 0
    if tree[0] in LOOKS:
        return looks_of(tree[2]) + 1
    return max([looks_of(part) for part in tree[1:]])


def with_names(tree, names):
    """The question with other names, as the dict tells for each."""
    return tuple([part if at == 0 else with_name(part, names) for at, part in enumerate(tree)])


def with_name(part, names):
    """A name of a question, or a question within it, with other names."""
    return names[part] if isinstance(part, str) else with_names(part, names)


def is_pair_of_names(value):
    """Whether it is a pair of names of a question."""
    if not is_list(value) or len(value) != 2:
        return False
    return all([isinstance(one, str) and one in NAMES for one in value])


def require_question(value, name):
    """A question."""
    if not isinstance(value, Question):
        raise BadQuestion(name)


def require_items(many):
    """Not too many items."""
    if many > MOST_ITEMS:
        raise TooMany("items", MOST_ITEMS)


class Question:
    """A question, made of its tree by reading a text or from other questions."""

    def __init__(self, tree):
        self.tree = tree
        self.words = tuple(words_of(tree))
        self.free = tuple([name for name in NAMES if is_free(tree, name)])
        self.looks = looks_of(tree)
        self.is_closed = len(self.free) == 0

    def __eq__(self, other):
        return isinstance(other, Question) and self.words == other.words

    def __str__(self):
        return " ".join(self.words)

    def negated(self):
        """The question that holds where this one does not."""
        require_items(len(self.words) + 1)
        return Question(("not", self.tree))

    def both(self, other):
        """The question that holds where this one and the other one do."""
        return joined("and", self, other)

    def either(self, other):
        """The question that holds where this one or the other one does."""
        return joined("or", self, other)

    def renamed(self, pairs):
        """The question with the second name of each pair for the first one, all at once."""
        if not is_list(pairs) or not all([is_pair_of_names(pair) for pair in pairs]):
            raise BadQuestion("pairs")
        twice = first_twice([pair[0] for pair in pairs])
        if twice is not None:
            raise Twice(twice)
        names = {name: name for name in NAMES}
        for first, second in pairs:
            names[first] = second
        if sorted([names[name] for name in NAMES]) != list(NAMES):
            raise Misfit("pairs")
        return Question(with_names(self.tree, names))

    @staticmethod
    def read(text):
        """The question whose text this is."""
        return read_question(Reader(items_of(text), 0))


def joined(word, one, other):
    """The question of both, with this item ahead."""
    require_question(other, "other")
    require_items(1 + len(one.words) + len(other.words))
    return Question((word, one.tree, other.tree))


def read_question(reader):
    """The question that the items ahead of the reader tell, to the last one."""
    tree = take_question(reader, MOST_ITEMS)
    reader.take_end()
    return Question(tree)


def take_question(reader, room):
    """Takes the items of a question, which has room for so many, three at least; returns its tree."""
    word = reader.take_one_of(words_for(room))
    if word in ATOMS:
        one = reader.take_one_of(NAMES)
        return (word, one, reader.take_one_of(NAMES))
    if word in LOOKS:
        name = reader.take_one_of(NAMES)
        return (word, name, take_question(reader, room - 2))
    if word == "not":
        return (word, take_question(reader, room - 1))
    begin = reader.taken
    first = take_question(reader, room - 1 - LEAST_ITEMS)
    return (word, first, take_question(reader, room - 1 - (reader.taken - begin)))


def words_for(room):
    """The first items of all questions that have no more items than there is room for."""
    words = ATOMS
    if room > LEAST_ITEMS:
        words = words + ("not",)
    if room > LEAST_ITEMS + 1:
        words = words + LOOKS
    if room > 2 * LEAST_ITEMS:
        words = words + JOINTS
    return words
