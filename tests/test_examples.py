"""Every example of the interface, with its answer or its error."""

import importlib
import unittest

from tests.asking import plain
from tests.examples import EXAMPLES

FILES = ("errors",) + tuple(name for name, _ in EXAMPLES)


def names_of(name):
    """The names of a file, for examples leave imports out."""
    module = importlib.import_module("thincoins." + name)
    return {key: value for key, value in vars(module).items() if not key.startswith("__")}


def steps_of(text):
    """The pairs (source, answer) of a file's examples; the answer is None for a plain step."""
    steps = []
    for line in text.strip().split("\n"):
        if line.startswith(">>> "):
            steps.append([line[4:], None])
        else:
            steps[-1][1] = line
    return steps


def run_step(names, source, answer):
    """Runs one example; for an error the pair of its class and fields is compared."""
    if answer is None:
        exec(source, names)
        return None, None
    if not answer.startswith("raises "):
        return eval(source, names), eval(answer, dict(names))
    wanted = eval(answer[len("raises "):], dict(names))
    try:
        got = eval(source, names)
    except ValueError as error:
        got = plain(error)
    return got, plain(wanted)


class TestExamples(unittest.TestCase):
    def test_all(self):
        names = {}
        for name in FILES:
            names.update(names_of(name))
        many = 0
        for name, text in EXAMPLES:
            # An earlier example may have made something of a name that this file has.
            names.update(names_of(name))
            for source, answer in steps_of(text):
                with self.subTest(file=name, source=source):
                    got, wanted = run_step(names, source, answer)
                    self.assertEqual(got, wanted)
                    self.assertEqual(repr(plain(got)), repr(plain(wanted)))
                    many += 1
        self.assertEqual(many, sum(text.count('>>> ') for _, text in EXAMPLES))


if __name__ == "__main__":
    unittest.main()
