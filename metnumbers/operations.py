"""The operations of a book: what the names and the party are behind one."""

from metnumbers.bars import met_or_barred
from metnumbers.errors import Mismatch, NoName, NoParty, TooMany
from metnumbers.names import is_name
from metnumbers.parties import (
    MOST_PERSONS, can_be_told, is_free, made_apart, made_free, made_met, moved, pair_of, told_by,
)

OF_A_PAIR = ("met", "apart", "open")
OF_A_NAME = ("in", "out")


def are_rows(thing):
    """Tell whether any object is a tuple of one or more tuples of two things."""
    if not isinstance(thing, tuple) or not thing:
        return False
    return all([isinstance(row, tuple) and len(row) == 2 for row in thing])


def is_operation(thing):
    """Tell whether any object is a tuple of the form of an operation."""
    if not isinstance(thing, tuple) or not thing:
        return False
    if thing[0] in OF_A_PAIR:
        return len(thing) == 3
    if thing[0] in OF_A_NAME:
        return len(thing) == 2
    return thing[0] == "numbers" and len(thing) == 2 and are_rows(thing[1])


def person_called(names, name):
    """Return the person of a name, or raise NoName if any object is none of the names."""
    if name not in names:
        raise NoName("this is no name of the book")
    return names.index(name)


def pair_called(names, one, other):
    """Return the pair of two names, or raise NoName or Mismatch if any two objects are no two names."""
    first = person_called(names, one)
    second = person_called(names, other)
    if first == second:
        raise Mismatch("these are the same name")
    return pair_of(first, second)


def with_pair(party, word, pair):
    """Return the party with a pair met, apart or open, or raise Mismatch if it is not free, or for open if it is."""
    if is_free(party, pair) == (word == "open"):
        raise Mismatch("this pair is free" if word == "open" else "this pair is not free")
    if word == "open":
        return made_free(party, pair)
    return made_met(party, pair) if word == "met" else made_apart(party, pair)


def with_numbers(names, party, rows):
    """Return the party in which persons tell other numbers."""
    told_persons = [person_called(names, name) for name, _ in rows]
    if len(set(told_persons)) < len(told_persons):
        raise Mismatch("a name stands in two rows")
    if not all([can_be_told(number) for _, number in rows]):
        raise NoParty("this can't be a number of a party")
    for person, (_, number) in zip(told_persons, rows):
        party = told_by(party, person, number)
    return party


def with_new(names, party, name):
    """Return the names and the party with a new person, who tells nothing."""
    if not is_name(name):
        raise NoName("this is no name")
    if name in names:
        raise Mismatch("this name is in the book")
    if len(names) == MOST_PERSONS:
        raise TooMany(MOST_PERSONS)
    numbers, met, apart = party
    return names + (name,), (numbers + (None,), met, apart)


def pairs_without(pairs, gone, places):
    """Return the pairs that a person who is gone is not in, of the persons at their new places."""
    return moved([pair for pair in pairs if gone not in pair], places)


def without(names, party, name):
    """Return the names and the party without a person and all facts about it."""
    gone = person_called(names, name)
    if len(names) == 1:
        raise Mismatch("this is the only person")
    numbers, met, apart = party
    places = [person - 1 if person > gone else person for person in range(len(names))]
    kept = numbers[:gone] + numbers[gone + 1:], pairs_without(met, gone, places), pairs_without(apart, gone, places)
    return names[:gone] + names[gone + 1:], kept


def changed_by(names, party, operation):
    """Return the names and the party behind an operation, as yet without asking whether it has a meeting."""
    if operation[0] == "in":
        return with_new(names, party, operation[1])
    if operation[0] == "out":
        return without(names, party, operation[1])
    if operation[0] == "numbers":
        return names, with_numbers(names, party, operation[1])
    word, one, other = operation
    return names, with_pair(party, word, pair_called(names, one, other))


def behind(names, party, operation):
    """Return the names and the party behind an operation, any object, or raise what Book.do raises."""
    if not is_operation(operation):
        raise Mismatch("this is no operation")
    new_names, new_party = changed_by(names, party, operation)
    met_or_barred(new_party)
    return new_names, new_party
