"""The desk: editions by their names, and lines that ask for them and change them."""

from roomleft.answers import ANSWERS
from roomleft.errors import NoName, NoUndo
from roomleft.lines import Line
from roomleft.steps import taken
from roomleft.texts import read_edition


class Desk:
    """Editions by their names.

    A book is a dict of the names to the editions. The books are those that were there one after
    another, the last one being that of now; no book is ever changed.
    """

    def __init__(self):
        self.books = ({},)

    def tell(self, line):
        """Does a line and returns its answer."""
        told = Line(line)
        editions = [self.edition(name) for name in told.names]
        if told.word in ANSWERS:
            answer = ANSWERS[told.word]
            return answer(editions, told.others)
        if told.word == "names":
            return " ".join(sorted(self.books[-1])) if len(self.books[-1]) > 0 else "none"
        if told.word == "edition":
            self._add(told.others[0], read_edition(told.others[1].replace(" | ", "\n")))
        elif told.word == "step":
            self._add(told.others[0], taken(editions[0], told.others[1]))
        elif told.word == "drop":
            self._drop(told.names[0])
        else:
            self._take_back()
        return "ok"

    def depth(self):
        """The number of lines that can be taken back."""
        return len(self.books) - 1

    def edition(self, name):
        """The edition of a name."""
        if not isinstance(name, str) or name not in self.books[-1]:
            raise NoName(name)
        return self.books[-1][name]

    def trying(self):
        """A context manager for one block, behind which all is as it was."""
        return Trying(self)

    def tried(self, lines):
        """The list of the answers to some lines, behind which all is as it was."""
        with Trying(self):
            answers = [self.tell(line) for line in lines]
        return answers

    def _add(self, name, edition):
        book = dict(self.books[-1])
        book[name] = edition
        self.books = self.books + (book,)

    def _drop(self, name):
        book = dict(self.books[-1])
        del book[name]
        self.books = self.books + (book,)

    def _take_back(self):
        if len(self.books) == 1:
            raise NoUndo()
        self.books = self.books[:-1]


class Trying:
    """The block of one `with` statement, behind which a desk is as it was."""

    def __init__(self, desk):
        self.desk = desk
        self.held = ()

    def __enter__(self):
        self.held = self.desk.books

    def __exit__(self, kind, value, trace):
        self.desk.books = self.held
