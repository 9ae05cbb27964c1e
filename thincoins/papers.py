"""Papers: an answer and what shows it."""


def fixed(value):
    """The value with tuples in the place of lists, all the way in."""
    if isinstance(value, (list, tuple)):
        return tuple([fixed(one) for one in value])
    return value


def are_equal_papers(one, other):
    """Whether both are papers of one class, with equal words and parts."""
    if not isinstance(one, Paper) or not isinstance(other, Paper):
        return False
    # A paper of a class is no paper of the class above it, so isinstance is not enough.
    if one.__class__.__name__ != other.__class__.__name__:
        return False
    return (one.word, one.parts) == (other.word, other.parts)


class Paper:
    """An answer that says yes; its word and its parts."""

    def __init__(self, word, *parts):
        self.word = fixed(word)
        self.parts = fixed(parts)

    def __eq__(self, other):
        return are_equal_papers(self, other)


class Denial(Paper):
    """An answer that says no: it is false."""

    def __init__(self, word, *parts):
        super().__init__(word, *parts)

    def __eq__(self, other):
        return are_equal_papers(self, other)

    def __bool__(self):
        return False
