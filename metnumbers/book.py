"""Books: persons under names, and a party of them that is led fact by fact."""

from metnumbers.bars import met_or_barred
from metnumbers.errors import Mismatch, NoMark, NoName
from metnumbers.names import is_name
from metnumbers.operations import behind, pair_called
from metnumbers.parties import all_pairs, need_party
from metnumbers.settle import best_question
from metnumbers.sure import open_among, paper_of, state_beside, state_of
from metnumbers.ways import Ways


def are_names(thing, many):
    """Tell whether any object is a tuple of so many different names."""
    if not isinstance(thing, tuple) or len(thing) != many or not all([is_name(name) for name in thing]):
        return False
    return len(set(thing)) == many


def names_of(names, pair):
    """Return the tuple of the names of a pair of persons."""
    one, other = pair
    return names[one], names[other]


def open_ones(party):
    """Return the ascending list of the open pairs of a right party with a meeting."""
    return sorted(open_among(party, Ways(party).least()))


class Book:
    """Persons under names, and a party of them that always has a meeting.

    Of each operation that is done, or was undone and can be done again, the book keeps the names and the party that
    undoing it, or doing it again, gives back.
    """

    def __init__(self, names, party):
        need_party(party)
        if not are_names(names, len(party[0])):
            raise NoName("these are no different names, one for each person")
        met_or_barred(party)
        self._names = names
        self._party = party
        self._done = []
        self._undone = []

    @classmethod
    def of(cls, names, party, operations):
        """Return a book in which a list of operations was done."""
        book = cls(names, party)
        book.all_done(operations)
        return book

    @property
    def names(self):
        """Return the tuple of the names."""
        return self._names

    @property
    def now(self):
        """Return the party as it is now."""
        return self._party

    def __eq__(self, other):
        return isinstance(other, Book) and self._names == other._names and self._party == other._party

    def __len__(self):
        return len(self._names)

    def __contains__(self, name):
        return name in self._names

    def __getitem__(self, name):
        if name not in self._names:
            raise NoName("this is no name of the book")
        return self._party[0][self._names.index(name)]

    def __iter__(self):
        raise TypeError("a book is not gone through")

    def state(self, one, other):
        """Return the state of the pair of two names."""
        return state_of(self._party, pair_called(self._names, one, other))

    def paper(self, one, other):
        """Return a paper for the pair of two names."""
        return paper_of(self._party, pair_called(self._names, one, other))

    def open_pairs(self):
        """Return the list of the open pairs, as tuples of two names, ascending by their persons."""
        return [names_of(self._names, pair) for pair in open_ones(self._party)]

    def ask(self):
        """Return the best question as a tuple (one, other, yes, no) of two names and two numbers, or None."""
        question = best_question(self._party)
        if question is None:
            return None
        pair, yes, no = question
        return names_of(self._names, pair) + (yes, no)

    def news(self):
        """Return the list of the tuples (one, other, state) of the pairs that the last operation closed."""
        if not self._done:
            return []
        _, names, party = self._done[-1]
        ahead = [names_of(names, pair) for pair in open_ones(party)]
        meeting = Ways(self._party).least()
        still_open = open_among(self._party, meeting)
        return [
            names_of(self._names, pair) + (state_beside(meeting, still_open, pair),)
            for pair in all_pairs(len(self._names))
            if names_of(self._names, pair) in ahead and pair not in still_open
        ]

    def do(self, operation):
        """Do an operation."""
        self.all_done([operation])

    def all_done(self, operations):
        """Do the operations of a list one after the other, or none of them if one is refused."""
        if not isinstance(operations, list):
            raise Mismatch("these are no operations in a list")
        names = self._names
        party = self._party
        done = []
        for operation in operations:
            done.append((operation, names, party))
            names, party = behind(names, party, operation)
        if done:
            self._undone = []
        self._done = self._done + done
        self._names = names
        self._party = party

    def undo(self):
        """Undo the last operation that is done."""
        if not self._done:
            raise NoMark("there is nothing to undo")
        operation, names, party = self._done.pop()
        self._undone.append((operation, self._names, self._party))
        self._names = names
        self._party = party

    def redo(self):
        """Do the operation again that was undone last."""
        if not self._undone:
            raise NoMark("there is nothing to do again")
        operation, names, party = self._undone.pop()
        self._done.append((operation, self._names, self._party))
        self._names = names
        self._party = party

    def notes(self):
        """Return the list of the operations that are done, in order."""
        return [operation for operation, _, _ in self._done]
