"""Quotients: polynomials by powers of m."""

from thincoins.books import LEAST_M, MOST_M
from thincoins.checks import lowest
from thincoins.errors import BadQuotient, TooMany
from thincoins.numbered import require_number
from thincoins.polynomials import Polynomial, require_polynomial
from thincoins.powers import power_of

MOST_POWER = 1000


def factors_m(numbers, most):
    """How many factors m the polynomial of these numbers has, but not more than most."""
    many = 0
    while many < most and (many >= len(numbers) or numbers[many] == 0):
        many += 1
    return many


def raised_over(quotient, power):
    """The polynomial that by m to this power, which is its own or above, is the quotient."""
    more = power - quotient.power
    return Polynomial((0,) * more + quotient.over.numbers)


def require_quotient(value, name):
    """A quotient."""
    if not isinstance(value, Quotient):
        raise BadQuotient(name)


class Quotient:
    """A polynomial by m to a power, which is as small as can be."""

    def __init__(self, over, power):
        require_polynomial(over, "over")
        require_number(power, 0, MOST_POWER, "power")
        many = factors_m(over.numbers, power)
        self.over = Polynomial(over.numbers[many:])
        self.power = power - many

    def __eq__(self, other):
        return isinstance(other, Quotient) and self.over == other.over and self.power == other.power

    def __add__(self, other):
        require_quotient(other, "other")
        power = max(self.power, other.power)
        return Quotient(raised_over(self, power) + raised_over(other, power), power)

    def __sub__(self, other):
        require_quotient(other, "other")
        power = max(self.power, other.power)
        return Quotient(raised_over(self, power) - raised_over(other, power), power)

    def __mul__(self, other):
        require_quotient(other, "other")
        if self.power + other.power > MOST_POWER:
            raise TooMany("power", MOST_POWER)
        return Quotient(self.over * other.over, self.power + other.power)

    def at(self, m):
        """The value at m, a ratio."""
        require_number(m, LEAST_M, MOST_M, "m")
        over = self.over
        return lowest(over(m), power_of(m, self.power))
