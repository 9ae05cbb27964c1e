"""What the tests share: asking for an error with its fields, and counting a short time."""

import time
import unittest

from thincoins.errors import ThinError
from thincoins.papers import Paper

# Values of many kinds, none of which is an integer, a list or a paper.
STRANGE = (None, True, False, 1.0, "1", "", b"1", {}, {0: 1}, {0, 1}, object(), int, range(2), 1j)
SHORT = 5


def strangers(paper):
    """Objects that have all that the paper has, but are made by calling other classes."""
    made = type(paper)
    beneath = type("Beneath", (made,), {})
    stranger = type(made.__name__, (), {})()
    vars(stranger).update(vars(paper))
    return (beneath(*paper.parts), stranger)


def plain(value):
    """The value with its papers and errors, all the way in, as their classes and what they keep."""
    if isinstance(value, Paper):
        return (type(value), plain(value.parts))
    if isinstance(value, ThinError):
        return (type(value), plain(vars(value)))
    if isinstance(value, dict):
        return {key: plain(one) for key, one in value.items()}
    if isinstance(value, (list, tuple)):
        return type(value)(plain(one) for one in value)
    return value


class Asking(unittest.TestCase):
    """A test that asks for errors by their class and their fields."""

    def refused(self, error, call, *told, **named):
        """The call must raise an error of just this class, with just these fields."""
        with self.assertRaises(ThinError) as caught:
            call(*told, **named)
        got = caught.exception
        self.assertEqual((type(got), vars(got)), (type(error), vars(error)))
        for name, value in vars(error).items():
            self.assertIs(type(vars(got)[name]), type(value))

    def quick(self, call, *told):
        """What the call returns, which must come in a short time."""
        start = time.monotonic()
        found = call(*told)
        self.assertLess(time.monotonic() - start, SHORT)
        return found

    def exactly(self, got, wanted):
        """Equal, and of the same kinds all the way in, so that True is no 1 and a list no tuple."""
        self.assertEqual(repr(plain(got)), repr(plain(wanted)))
        self.assertEqual(got, wanted)
