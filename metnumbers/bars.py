"""The bars of a party: which objects they are, their slack, and those that show that there is no meeting."""

from metnumbers.errors import Mismatch, NoBar, NoMeeting
from metnumbers.parties import are_persons, need_few, need_party, persons
from metnumbers.parts import mask_of, persons_in
from metnumbers.scales import scales_of
from metnumbers.ways import Ways


def are_sides(thing, many):
    """Tell whether any object is a tuple of two ascending tuples of different ones of so many persons, none in both."""
    if not isinstance(thing, tuple) or len(thing) != 2:
        return False
    first, second = thing
    if not are_persons(first, many) or not are_persons(second, many):
        return False
    return not any([person in first for person in second])


def is_bar(party, thing):
    """Tell whether any object is a bar of a party."""
    return are_sides(thing, persons(party))


def need_bar(party, bar):
    """Raise NoParty if this is no party, then NoBar if any object is no bar of it."""
    if not is_bar(party, bar):
        raise NoBar("this is no bar of the party")


def slack(party, bar):
    """Return the slack of a bar."""
    need_bar(party, bar)
    first, second = bar
    return scales_of(party).slack(mask_of(first), mask_of(second))


def odd_lots(party, bar):
    """Return the ascending list of the odd lots of a bar, each an ascending tuple."""
    need_bar(party, bar)
    first, second = bar
    return [persons_in(lot) for lot in scales_of(party).odd_lots(mask_of(first), mask_of(second))]


def bars_on(scales, thing):
    """Tell whether any object is a bar with a slack below 0 on the scales of a party."""
    if not are_sides(thing, len(scales.needs)):
        return False
    first, second = thing
    return scales.slack(mask_of(first), mask_of(second)) < 0


def bars_it(party, thing):
    """Tell whether any object is a bar that bars a party."""
    need_party(party)
    return bars_on(scales_of(party), thing)


def bar_of(party):
    """Return a bar that bars a party, or None if it has a meeting."""
    need_party(party)
    # A meeting is found much faster than it is seen that there is no bar.
    return None if Ways(party).has_any() else scales_of(party).barring()


def met_or_barred(party):
    """Return the least meeting of a right party, or raise NoMeeting, with a bar, if it has none."""
    meeting = Ways(party).least()
    if meeting is None:
        raise NoMeeting(scales_of(party).barring())
    return meeting


def need_few_with_meeting(party):
    """Raise NoParty if this is no party, then TooMany for too many persons, then NoMeeting if it has no meeting."""
    need_few(party)
    met_or_barred(party)


def row(numbers, k):
    """Return the tuple (k, left, right) of numbers that descend."""
    right = k * (k - 1) + sum([min(number, k) for number in numbers[k:]])
    return k, sum(numbers[:k]), right


def rows(party):
    """Return the list of the tuples (k, left, right) of a party without facts in which everybody told a number."""
    many = persons(party)
    numbers, met, apart = party
    if met or apart or None in numbers:
        raise Mismatch("this party has facts, or somebody told nothing")
    descending = sorted(numbers, reverse=True)
    return [row(descending, k) for k in range(1, many + 1)]
