"""The classes of errors: their fields and what stands above them."""

import unittest

from thincoins import errors

WITH_PART = (
    "BadNumber", "BadRatio", "BadLot", "BadBook", "BadWeb", "BadPolynomial", "BadQuotient",
    "BadQuestion", "BadTown", "BadPaper", "BadDesk", "Misfit",
)
BELOW_MISSING = ("NoPoint", "NoTie", "NoSort", "NoKind", "NoName")
FIELDS = {name: ("part",) for name in WITH_PART}
FIELDS.update({name: ("value",) for name in BELOW_MISSING})
FIELDS.update({
    "Missing": ("value",), "Twice": ("value",), "Impossible": ("paper",), "TooMany": ("what", "most"),
    "Nothing": (), "BadText": ("line", "item"), "BadLine": ("line", "error"), "ThinError": (),
})
VALUES = (None, True, 0, -1, 10 ** 100, "sizes", "", [1, [2]], (), {}, object(), ValueError("x"), int)


class TestErrors(unittest.TestCase):
    def test_all_are_there_and_no_others(self):
        told = {name for name, one in vars(errors).items() if isinstance(one, type)}
        self.assertEqual(told, set(FIELDS))

    def test_fields_by_place_are_kept_as_passed(self):
        for name, fields in FIELDS.items():
            for value in VALUES:
                error = getattr(errors, name)(*[value for _ in fields])
                self.assertEqual(set(vars(error)), set(fields))
                for field in fields:
                    self.assertIs(getattr(error, field), value)

    def test_fields_by_name_are_kept_as_passed(self):
        for name, fields in FIELDS.items():
            for value in VALUES:
                error = getattr(errors, name)(**{field: value for field in fields})
                for field in fields:
                    self.assertIs(getattr(error, field), value)

    def test_two_fields_keep_their_order(self):
        self.assertEqual(vars(errors.TooMany("ties", 15)), {"what": "ties", "most": 15})
        self.assertEqual(vars(errors.BadText(0, 7)), {"line": 0, "item": 7})
        self.assertEqual(vars(errors.BadLine(3, None)), {"line": 3, "error": None})

    def test_what_stands_directly_above(self):
        for name in FIELDS:
            above = errors.ThinError
            if name == "ThinError":
                above = ValueError
            if name in BELOW_MISSING:
                above = errors.Missing
            self.assertEqual(getattr(errors, name).__bases__, (above,))

    def test_missing_stands_above_just_five(self):
        self.assertEqual({one.__name__ for one in errors.Missing.__subclasses__()}, set(BELOW_MISSING))

    def test_they_are_raised_and_caught(self):
        for name, fields in FIELDS.items():
            with self.assertRaises(ValueError) as caught:
                raise getattr(errors, name)(*fields)
            self.assertEqual(type(caught.exception).__name__, name)
            self.assertIsInstance(str(caught.exception), str)


if __name__ == "__main__":
    unittest.main()
