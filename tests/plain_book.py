"""What point 12 says in its own words, slow and made without the package: a book, its operations and its news."""

import re

from metnumbers import errors
from tests.plain import all_meetings, is_int, pairs_of, state
from tests.plain_settling import best_of


def is_name(thing):
    return type(thing) is str and re.fullmatch("[a-z][a-z0-9]{0,7}", thing) is not None


class PlainBook:
    """A book: a list of names, what each person told, and the facts as sets of two names."""

    def __init__(self, names, party):
        self.names = list(names)
        self.told = dict(zip(names, party[0]))
        self.met = [{names[one], names[other]} for one, other in party[1]]
        self.apart = [{names[one], names[other]} for one, other in party[2]]
        self.done = []
        self.undone = []

    def facts(self, sets):
        """Return the pairs of some sets of two names."""
        return tuple(sorted(tuple(sorted(self.names.index(name) for name in two)) for two in sets))

    def party(self):
        return tuple(self.told[name] for name in self.names), self.facts(self.met), self.facts(self.apart)

    def all(self):
        """Return all that operations change."""
        return list(self.names), dict(self.told), list(self.met), list(self.apart)

    def set_all(self, kept):
        self.names, self.told, self.met, self.apart = list(kept[0]), dict(kept[1]), list(kept[2]), list(kept[3])

    def states(self):
        """Return the dict from each pair of names to its state."""
        party = self.party()
        return {(self.names[a], self.names[b]): state(party, (a, b)) for a, b in pairs_of(len(self.names))}

    def open_pairs(self):
        return [pair for pair, told in self.states().items() if told == "open"]

    def ask(self):
        found = best_of(self.party())
        return found and (self.names[found[0][0]], self.names[found[0][1]], *found[1:])

    def news(self):
        """Return the pairs of the persons now that were open ahead of the last operation and are not open behind it."""
        if not self.done:
            return []
        kept = self.all()
        self.set_all(self.done[-1][1])
        ahead = self.open_pairs()
        self.set_all(kept)
        return [(*pair, told) for pair, told in self.states().items() if pair in ahead and told != "open"]

    def do(self, operation):
        """Do an operation, or return the class of the error that refuses it."""
        kept = self.all()
        error = self.wrong(operation)
        if error is None:
            self.change(operation)
            if not all_meetings(self.party()):
                error = errors.NoMeeting
        if error is not None:
            self.set_all(kept)
            return error
        self.done.append((operation, kept))
        self.undone = []
        return None

    def all_done(self, operations):
        """Do operations, or none of them, and return the class of the error of the first that is refused."""
        kept, done, undone = self.all(), list(self.done), list(self.undone)
        for operation in operations:
            error = self.do(operation)
            if error is not None:
                self.set_all(kept)
                self.done, self.undone = done, undone
                return error
        return None

    def undo(self):
        operation, kept = self.done.pop()
        self.undone.append((operation, self.all()))
        self.set_all(kept)

    def redo(self):
        operation, kept = self.undone.pop()
        self.done.append((operation, self.all()))
        self.set_all(kept)

    def wrong(self, operation):
        """Return the class of the error that is described first, or None."""
        if not self.has_form(operation):
            return errors.Mismatch
        word, *things = operation
        if word in ("met", "apart", "open"):
            if things[0] not in self.names or things[1] not in self.names:
                return errors.NoName
            is_free = set(things) not in self.met + self.apart
            return errors.Mismatch if things[0] == things[1] or is_free == (word == "open") else None
        if word == "numbers":
            names, numbers = [row[0] for row in things[0]], [row[1] for row in things[0]]
            if any(name not in self.names for name in names):
                return errors.NoName
            if len(set(names)) < len(names):
                return errors.Mismatch
            right = all(number is None or is_int(number) and 0 <= number <= 20 for number in numbers)
            return None if right else errors.NoParty
        if word == "in":
            if not is_name(things[0]):
                return errors.NoName
            if things[0] in self.names:
                return errors.Mismatch
            return errors.TooMany if len(self.names) == 8 else None
        if things[0] not in self.names:
            return errors.NoName
        return errors.Mismatch if len(self.names) == 1 else None

    def has_form(self, operation):
        if type(operation) is not tuple or not operation or type(operation[0]) is not str:
            return False
        word, *things = operation
        if word == "numbers":
            rows = things[0] if len(things) == 1 else None
            return type(rows) is tuple and len(rows) > 0 and all(type(row) is tuple and len(row) == 2 for row in rows)
        return len(things) == {"met": 2, "apart": 2, "open": 2, "in": 1, "out": 1}.get(word)

    def change(self, operation):
        word, *things = operation
        if word in ("met", "apart"):
            (self.met if word == "met" else self.apart).append(set(things))
        elif word == "open":
            self.met = [two for two in self.met if two != set(things)]
            self.apart = [two for two in self.apart if two != set(things)]
        elif word == "numbers":
            self.told.update(things[0])
        elif word == "in":
            self.names.append(things[0])
            self.told[things[0]] = None
        else:
            self.names.remove(things[0])
            self.met = [two for two in self.met if things[0] not in two]
            self.apart = [two for two in self.apart if things[0] not in two]
