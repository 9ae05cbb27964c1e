"""The errors of the package; each one keeps its fields as they were passed."""


class ThinError(ValueError):
    """The base of all errors of the package."""


class BadNumber(ThinError):
    """No integer, or not within its bounds."""

    def __init__(self, part):
        self.part = part


class BadRatio(ThinError):
    """No ratio in lowest terms, or not within its bounds."""

    def __init__(self, part):
        self.part = part


class BadLot(ThinError):
    """No list where several numbers are passed."""

    def __init__(self, part):
        self.part = part


class BadBook(ThinError):
    """No book, or a part of one that cannot be."""

    def __init__(self, part):
        self.part = part


class BadWeb(ThinError):
    """No web, or a part of one that cannot be."""

    def __init__(self, part):
        self.part = part


class BadPolynomial(ThinError):
    """No polynomial, or a part of one that cannot be."""

    def __init__(self, part):
        self.part = part


class BadQuotient(ThinError):
    """No quotient, or a part of one that cannot be."""

    def __init__(self, part):
        self.part = part


class BadQuestion(ThinError):
    """No question, or names of one that cannot be."""

    def __init__(self, part):
        self.part = part


class BadTown(ThinError):
    """No town, or a part of one that cannot be."""

    def __init__(self, part):
        self.part = part


class BadPaper(ThinError):
    """No paper of the class that is told."""

    def __init__(self, part):
        self.part = part


class BadDesk(ThinError):
    """No desk, or a part of one that cannot be."""

    def __init__(self, part):
        self.part = part


class Misfit(ThinError):
    """A part that does not fit the others."""

    def __init__(self, part):
        self.part = part


class Missing(ThinError):
    """A value that is none here; only the five below it are raised."""

    def __init__(self, value):
        self.value = value


class NoPoint(Missing):
    """No point of the web."""

    def __init__(self, value):
        self.value = value


class NoTie(Missing):
    """No number of a tie of the web."""

    def __init__(self, value):
        self.value = value


class NoSort(Missing):
    """No number of a sort of the book."""

    def __init__(self, value):
        self.value = value


class NoKind(Missing):
    """No number of a kind of the book."""

    def __init__(self, value):
        self.value = value


class NoName(Missing):
    """No name under which something is kept."""

    def __init__(self, value):
        self.value = value


class Twice(ThinError):
    """A value that stands there already."""

    def __init__(self, value):
        self.value = value


class Impossible(ThinError):
    """It cannot be done; the paper shows why."""

    def __init__(self, paper):
        self.paper = paper


class TooMany(ThinError):
    """There are more than most."""

    def __init__(self, what, most):
        self.what = what
        self.most = most


class Nothing(ThinError):
    """There is nothing to go by."""


class BadText(ThinError):
    """An item of a text that cannot stand, or a missing one."""

    def __init__(self, line, item):
        self.line = line
        self.item = item


class BadLine(ThinError):
    """A line of a desk that raised an error."""

    def __init__(self, line, error):
        self.line = line
        self.error = error
