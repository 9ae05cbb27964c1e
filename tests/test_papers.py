"""Papers, denials, and values with tuples in the place of lists."""

import unittest

from tests.asking import Asking
from thincoins.dials import Any, Barred, Dial
from thincoins.farthest import Apart, Steps
from thincoins.handings import Comes, OnBreak, Rare
from thincoins.friends import Level, Most, MostBreak, Power
from thincoins.hulls import Hull
from thincoins.layings import Alike, Unlike
from thincoins.named import Everywhere, NamesBreak, Seldom
from thincoins.papers import Denial, Paper, fixed
from thincoins.placings import Sums
from thincoins.polygons import Polygon
from thincoins.surely import RareFrom, SureFrom
from thincoins.tails import Below, NotBelow
from thincoins.thinside import Trees, TreesBreak
from thincoins.threelooks import DialBreak

CLASSES = (
    (Alike, ("laying",)), (Comes, ("handing",)), (Dial, ("ratio", "part")), (Any, ()),
    (Polygon, ("lines", "corners")), (SureFrom, ("m",)), (RareFrom, ("m", "part")), (Everywhere, ("handing",)),
    (Hull, ("part", "weight", "greatest")), (Sums, ("mean", "pairs")), (Below, ("terms", "bound")), (Power, ("weight",)),
    (Most, ("number", "lot")), (Steps, ("number",)), (Trees, ("number",)),
)
DENIALS = (
    (Unlike, ("what",)), (Rare, ("part",)), (OnBreak, ("part",)), (Barred, ("part",)), (Seldom, ("part",)),
    (NamesBreak, ("part",)), (NotBelow, ("bound",)), (MostBreak, ("number", "lot")), (Level, ()),
    (Apart, ()), (TreesBreak, ("number",)), (DialBreak, ("ratio",)),
)
VALUES = (None, True, 3, "x", [1, [2, (3, [4])]], (), [], {"a": [1]}, object(), Paper("in"))


class TestFixed(Asking):
    def test_lists_become_tuples_all_the_way_in(self):
        self.exactly(fixed([1, (2, [3, [], ([4],)])]), (1, (2, (3, (), ((4,),)))))
        self.exactly(fixed([]), ())
        self.exactly(fixed(()), ())

    def test_other_values_stay(self):
        for value in (None, True, 1, "ab", b"ab", object(), {"a": [1]}, range(3), {1, 2}, Paper("x", [1])):
            self.assertIs(fixed(value), value)
        inner = {"a": [1]}
        self.assertIs(fixed([[inner]])[0][0], inner)

    def test_thirty_deep(self):
        value, wanted = [], ()
        for _ in range(30):
            value, wanted = [value, 1], (wanted, 1)
        self.exactly(fixed(value), wanted)


class TestPapers(Asking):
    def test_paper(self):
        paper = Paper("note", [1, (2, [3])], None)
        self.exactly((paper.word, paper.parts), ("note", ((1, (2, (3,))), None)))
        self.exactly((Paper("no").parts, Denial("no").parts), ((), ()))
        self.assertEqual(Paper(word="a").word, "a")

    def test_truth(self):
        self.assertIs(bool(Paper("x")), True)
        self.assertIs(bool(Paper("", 0)), True)
        self.assertIs(bool(Denial("x", 1)), False)
        for made, fields in CLASSES:
            self.assertIs(bool(made(*[0 for _ in fields])), True)
        for made, fields in DENIALS:
            self.assertIs(bool(made(*[1 for _ in fields])), False)

    def test_what_is_passed_may_be_changed(self):
        inner = [2]
        rows = [1, inner]
        paper = Comes(rows)
        inner.append(3)
        rows.append(4)
        self.exactly((paper.handing, paper.parts), ((1, (2,)), ((1, (2,)),)))

    def test_equality(self):
        self.assertTrue(Paper("a", [1]) == Paper("a", (1,)))
        self.assertTrue(Paper("a", 1) == Paper("a", True))
        self.assertTrue(Denial("a", 1) == Denial("a", 1))
        for other in (Paper("b", 1), Paper("a", 2), Paper("a"), Paper("a", 1, 1), Denial("a", 1), 1, "a", None, ("a", 1)):
            self.assertFalse(Paper("a", 1) == other)
            self.assertFalse(other == Paper("a", 1))
            self.assertTrue(Paper("a", 1) != other)

    def test_a_stranger_with_the_name_of_a_class(self):
        stranger = type("Paper", (), {"word": "a", "parts": (1,)})()
        self.assertIs(Paper("a", 1) == stranger, False)
        self.assertIs(Paper("a", 1) != stranger, True)

    def test_equality_wants_one_class(self):
        self.assertFalse(Rare((0,)) == Denial("rare", (0,)))
        self.assertFalse(Denial("rare", (0,)) == Rare((0,)))
        self.assertFalse(Comes(()) == Paper("comes", ()))
        self.assertFalse(Rare((0,)) == OnBreak((0,)))
        self.assertFalse(Rare((0,)) == Barred((0,)))
        self.assertTrue(Rare([0]) == Rare((0,)))
        self.assertFalse(Rare((0,)) != Rare([0]))

    def test_each_class_keeps_its_parts(self):
        for made, fields in CLASSES + DENIALS:
            for value in VALUES:
                for paper in (made(*[value for _ in fields]), made(**{field: value for field in fields})):
                    self.assertEqual(paper.word, made.__name__.lower())
                    self.assertEqual(paper.parts, tuple(fixed(value) for _ in fields))
                    for field in fields:
                        self.assertEqual(getattr(paper, field), fixed(value))

    def test_parts_stand_in_the_order_of_the_parameters(self):
        self.exactly(Dial(part=(1,), ratio=(2, 3)).parts, ((2, 3), (1,)))
        self.exactly(Polygon(corners=[], lines=[(1, 0, 2)]).parts, (((1, 0, 2),), ()))
        self.exactly(RareFrom(part=[1], m=4).parts, (4, (1,)))
        self.exactly(Sums(pairs=[0, 1], mean=[1, 2]).parts, ((1, 2), (0, 1)))
        self.exactly(Below(bound=[0, 1], terms=3).parts, (3, (0, 1)))
        self.exactly(Most(lot=[1], number=3).parts, MostBreak(lot=(1,), number=3).parts)
        self.exactly(Hull(greatest=[2], weight=-3, part=[]).parts, ((), -3, (2,)))

    def test_all_are_below_paper_and_only_denials_below_denial(self):
        for made, _ in CLASSES:
            self.assertTrue(issubclass(made, Paper) and not issubclass(made, Denial))
        for made, _ in DENIALS:
            self.assertTrue(issubclass(made, Denial))
        self.assertTrue(issubclass(Denial, Paper))


if __name__ == "__main__":
    unittest.main()
