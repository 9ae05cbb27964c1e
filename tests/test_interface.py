"""All that the interface lists is in its file, defined there, with the parameters that are told."""

import importlib
import inspect
import unittest

from tests import test_papers
from thincoins import errors

# Functions and classes by file; behind a dot the methods of a class, with their parameters.
INTERFACE = {
    "checks": "is_integer(value) is_within(value,least,most) is_name(value) are_integers(value) is_ratio(value) "
              "is_lot(value,many) first_twice(values) common_divisor(values) lowest(number,by) compared(one,other)",
    "papers": "Paper(word,*parts) Denial(word,*parts) Paper.__eq__(other) fixed(value)",
    "books": "Book(sizes,sorts=) Book.with_size(kind,size) Book.with_thinness(sort,thinness) "
             "Book.with_sort(kind,its,thinness) Book.things_at(kind,m) Book.read(text) Book.__str__() Book.__eq__(other)",
    "webs": "Web(kinds,ties=) Web.part(points) Web.in_order(points) Web.tie_numbers(points) Web.without_ties(numbers) "
            "Web.with_tie(point,other,sort) Web.beside(other) Web.all_tied(points,kind=,sort=) Web.way(ties,kind=,sort=) "
            "Web.ring(points,kind=,sort=) Web.read(text) Web.__str__() Web.__eq__(other) fits(book,web)",
    "layings": "parts(web) layings(web,other) many_layings(web,other) first_laying(web,other) turns(web) Alike(laying) "
               "Unlike(what) alike(web,other)",
    "glued": "glued(web,other,pairs)",
    "weights": "weight(book,web,part=) least_parts(book,web)",
    "handings": "Comes(handing) Rare(part) OnBreak(part) comes(book,web)",
    "heavy": "heavy_parts(book,web) fewest_struck(book,web)",
    "check_weights": "shows_comes(book,web,value)",
    "dials": "Dial(ratio,part) Any() Barred(part) dial(book,web,sort) comes_at(book,web,sort,ratio)",
    "polygons": "Polygon(lines,corners) polygon(book,web,sort,other)",
    "check_dials": "shows_dial(book,web,sort,value) shows_polygon(book,web,sort,other,value)",
    "polynomials": "Polynomial(numbers) Polynomial.__call__(m) Polynomial.__add__(other) Polynomial.__sub__(other) "
                   "Polynomial.__neg__() Polynomial.__mul__(other) Polynomial.shifted(by) Polynomial.lone(degree) "
                   "Polynomial.falling(size,many) Polynomial.__eq__(other)",
    "quotients": "Quotient(over,power) Quotient.__add__(other) Quotient.__sub__(other) Quotient.__mul__(other) Quotient.at(m) "
                 "Quotient.__eq__(other)",
    "moments": "sharings(web) mean(book,web) second(book,web) at_least(book,web,m) at_most(book,web,m)",
    "fillings": "coins(book,m) spread(book,web,m) chance(book,web,m)",
    "surely": "above_from(polynomial) SureFrom(m) RareFrom(m,part) sure_from(book,web,share) rare_from(book,web,share)",
    "check_moments": "shows_from(book,web,share,value)",
    "named": "bare(web,names) beside(book,web,names,part) Everywhere(handing) Seldom(part) NamesBreak(part) "
             "everywhere(book,web,names)",
    "hulls": "Hull(part,weight,greatest) hull(book,web,names)",
    "chains": "chain(book,web,names)",
    "check_named": "shows_everywhere(book,web,names,value) shows_hull(book,web,names,value)",
    "placings": "many_placings(book,web,names,m) Sums(mean,pairs) sums(book,web,names,m) lack(book,web,names,m)",
    "tails": "tail(x,terms) lacks_at_most(book,web,names,m,terms) Below(terms,bound) NotBelow(bound) "
             "terms_for(book,web,names,m,share)",
    "check_tails": "shows_sums(book,web,names,m,value) shows_terms(book,web,names,m,share,value)",
    "friends": "Power(weight) Most(number,lot) MostBreak(number,lot) Level() friends(book,kind,sorts) "
               "friends_web(book,kind,sorts,many)",
    "mutual": "mutual(book)",
    "farthest": "Steps(number) Apart() farthest(book)",
    "check_greatest": "shows_friends(book,kind,sorts,value) shows_mutual(book,value) shows_farthest(book,value)",
    "questions": "Question Question.read(text) Question.__str__() Question.__eq__(other) Question.negated() "
                 "Question.both(other) Question.either(other) Question.renamed(pairs)",
    "towns": "Town(things,ties=) Town.__eq__(other) Town.beside(other) holds(town,question)",
    "trees": "trees(most) thin_town(most,copies)",
    "thinside": "Trees(number) TreesBreak(number) greatest_tree(book) thin_verdict(book,question)",
    "views": "views_of_town(town) are_views(value) answer(views,question)",
    "threelooks": "DialBreak(ratio) cell_of(book) views_of_cell(cell) cell_of_town(town) verdict(book,question)",
    "questiondials": "question_dial(question) changes(question) parting_cells(one,other)",
    "desk_lines": "read_line(line)",
    "shelves": "Shelf(book=,webs=) Shelf.web(name) Shelf.__eq__(other)",
    "desk_deeds": "changed(shelf,line)",
    "desk_asks": "answer_of(shelf,line)",
    "desk": "Desk() Desk.told(*lines) Desk.__call__(line) Desk.tried(*lines) Desk.undo() Desk.redo() Desk.twin() "
            "Desk.__len__() Desk.__contains__(value) Desk.__eq__(other)",
    "stories": "replay(lines) parting(one,other)",
}


def told_parameters(call, skip):
    """The parameters as the table writes them."""
    found = []
    for one in list(inspect.signature(call).parameters.values())[skip:]:
        star = "*" if one.kind is one.VAR_POSITIONAL else ""
        found.append(star + one.name + ("" if one.default is one.empty else "="))
    return ",".join(found)


class TestInterface(unittest.TestCase):
    def entries(self):
        """The triples (module, name, parameters or None)."""
        for file, text in INTERFACE.items():
            module = importlib.import_module("thincoins." + file)
            for entry in text.split():
                name, bracket, rest = entry.partition("(")
                with self.subTest(file=file, entry=entry):
                    yield module, name, rest[:-1] if bracket else None

    def test_all_is_there_and_defined_there(self):
        for module, name, parameters in self.entries():
            head, _, method = name.partition(".")
            made = getattr(module, head)
            self.assertEqual(made.__module__, module.__name__)
            if method:
                # In the body of the class itself, not of one above it.
                call = vars(made)[method]
                skip = 0 if isinstance(call, (staticmethod, classmethod)) else 1
                self.assertEqual(told_parameters(getattr(call, "__func__", call), skip), parameters)
            elif parameters is not None:
                self.assertEqual(told_parameters(made, 0), parameters)

    def test_no_paper_is_left_out(self):
        told = {made for made, _ in test_papers.CLASSES + test_papers.DENIALS}
        found = set()
        for file, text in INTERFACE.items():
            module = importlib.import_module("thincoins." + file)
            for entry in text.split():
                one = getattr(module, entry.partition("(")[0].partition(".")[0])
                if isinstance(one, type) and issubclass(one, test_papers.Paper):
                    found.add(one)
        self.assertEqual(found - {test_papers.Paper, test_papers.Denial}, told)

    def test_errors_are_raised_by_name(self):
        for name, one in vars(errors).items():
            if isinstance(one, type):
                self.assertEqual(one.__module__, "thincoins.errors", name)


if __name__ == "__main__":
    unittest.main()
