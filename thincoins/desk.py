"""The desk: it is told lines, keeps what they make, and can take them back."""

from thincoins.checks import is_name
from thincoins.desk_asks import answer_of
from thincoins.desk_deeds import changed
from thincoins.desk_lines import DEEDS, has_first_of
from thincoins.errors import BadLine, Nothing, ThinError
from thincoins.shelves import Shelf


class Desk:
    """A shelf, the story of the deed lines that made it, and what was taken back of it."""

    def __init__(self):
        self.shelf = Shelf()
        self.story = ()
        # The shelf ahead of each line of the story, so that lines are taken back without telling all anew;
        # the lines taken back with the shelf behind each, the one to be done again first standing last.
        self.past = ()
        self.undone = ()

    def __call__(self, line):
        return self.step(line)

    def __len__(self):
        return len(self.shelf.webs)

    def __contains__(self, value):
        return is_name(value) and value in self.shelf.names

    def __eq__(self, other):
        return isinstance(other, Desk) and self.shelf == other.shelf

    def step(self, line):
        """The answer to the line; a deed line is done."""
        if not has_first_of(line, DEEDS):
            return answer_of(self.shelf, line)
        later, answer = changed(self.shelf, line)
        self.undone = ()
        self.keep(line, later)
        return answer

    def keep(self, line, later):
        """Goes on to this shelf, the line being the last one of the story."""
        self.past = self.past + (self.shelf,)
        self.story = self.story + (line,)
        self.shelf = later

    def told(self, *lines):
        """The answers to these lines, each of which is done; none is if one is refused."""
        later = self.twin()
        answers = later.tried_on(lines)
        self.become(later)
        return answers

    def tried(self, *lines):
        """The answers to these lines, as if they were told."""
        return self.twin().tried_on(lines)

    def tried_on(self, lines):
        """The answers to these lines, done up to the first one that is refused."""
        answers = []
        for at, line in enumerate(lines):
            try:
                answers.append(self.step(line))
            except ThinError as error:
                raise BadLine(at, error) from error
        return tuple(answers)

    def undo(self):
        """Takes back the last line of the story, and returns it."""
        if len(self.story) == 0:
            raise Nothing()
        line = self.story[-1]
        self.undone = self.undone + ((line, self.shelf),)
        self.shelf = self.past[-1]
        self.story = self.story[:-1]
        self.past = self.past[:-1]
        return line

    def redo(self):
        """Does again the line that was taken back last, and returns it."""
        if len(self.undone) == 0:
            raise Nothing()
        line, later = self.undone[-1]
        self.undone = self.undone[:-1]
        self.keep(line, later)
        return line

    def twin(self):
        """A desk that is as this one; neither changes the other."""
        other = Desk()
        other.become(self)
        return other

    def become(self, other):
        """Is from now on as the other desk is."""
        self.shelf = other.shelf
        self.story = other.story
        self.past = other.past
        self.undone = other.undone
