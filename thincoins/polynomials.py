"""Polynomials in m: rows of integers, the one without m first."""

from thincoins.checks import are_integers
from thincoins.errors import BadPolynomial, TooMany
from thincoins.numbered import require_number

MOST_DEGREE = 400
MOST_LONE = 200
MOST_SIZE = 12
MOST_FACTORS = 12


def trimmed(numbers):
    """The numbers as a tuple, without any 0 at the end."""
    many = len(numbers)
    while many > 0 and numbers[many - 1] == 0:
        many -= 1
    return tuple(numbers[:many])


def sum_row(one, other):
    """The numbers of both rows, added place by place."""
    many = max(len(one), len(other))
    row = [0] * many
    for at, number in enumerate(one):
        row[at] = number
    for at, number in enumerate(other):
        row[at] = row[at] + number
    return row


def product_row(one, other):
    """The numbers of the product of the polynomials that have these numbers."""
    many = len(one) + len(other)
    row = [0] * many
    for at, number in enumerate(one):
        if number != 0:
            for its, factor in enumerate(other):
                row[at + its] = row[at + its] + number * factor
    return row


def require_polynomial(value, name):
    """A polynomial."""
    if not isinstance(value, Polynomial):
        raise BadPolynomial(name)


class Polynomial:
    """A polynomial, told by its numbers, the last of which is not 0."""

    def __init__(self, numbers):
        if not are_integers(numbers):
            raise BadPolynomial("numbers")
        self.numbers = trimmed(numbers)
        self.degree = len(self.numbers) - 1

    def __eq__(self, other):
        return isinstance(other, Polynomial) and self.numbers == other.numbers

    def __call__(self, m):
        require_number(m, None, None, "m")
        value = 0
        for number in reversed(self.numbers):
            value = value * m + number
        return value

    def __neg__(self):
        return Polynomial([-number for number in self.numbers])

    def __add__(self, other):
        require_polynomial(other, "other")
        return Polynomial(sum_row(self.numbers, other.numbers))

    def __sub__(self, other):
        require_polynomial(other, "other")
        return Polynomial(sum_row(self.numbers, [-number for number in other.numbers]))

    def __mul__(self, other):
        require_polynomial(other, "other")
        if self.degree + other.degree > MOST_DEGREE:
            raise TooMany("degree", MOST_DEGREE)
        return Polynomial(product_row(self.numbers, other.numbers))

    def shifted(self, by):
        """The polynomial that has at each t the value of this one at t + by."""
        require_number(by, None, None, "by")
        row = list(self.numbers)
        # Dividing by m less by, again and again, leaves one number of the answer each time.
        for at in range(len(row) - 1):
            for place in range(len(row) - 2, at - 1, -1):
                row[place] += by * row[place + 1]
        return Polynomial(row)

    @staticmethod
    def lone(degree):
        """m to this power."""
        require_number(degree, 0, MOST_LONE, "degree")
        return Polynomial([0] * degree + [1])

    @staticmethod
    def falling(size, many):
        """m^size (m^size - 1) and so on, so many factors."""
        require_number(size, 1, MOST_SIZE, "size")
        require_number(many, 0, MOST_FACTORS, "many")
        found = Polynomial([1])
        for less in range(many):
            found = found * (Polynomial.lone(size) - Polynomial([less]))
        return found
