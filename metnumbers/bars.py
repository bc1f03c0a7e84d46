"""The bars of a party: which objects they are, their slack, and those that show that there is no meeting."""

from metnumbers.errors import Mismatch, NoBar, NoMeeting
from metnumbers.meetings import least_meeting
from metnumbers.parties import are_persons, persons
from metnumbers.scales import Scales


def is_bar(party, thing):
    """Tell whether any object is a bar of a party."""
    many = persons(party)
    if not isinstance(thing, tuple) or len(thing) != 2:
        return False
    first, second = thing
    if not are_persons(first, many) or not are_persons(second, many):
        return False
    return not any([person in first for person in second])


def need_bar(party, bar):
    """Raise NoParty if this is no party, then NoBar if any object is no bar of it."""
    if not is_bar(party, bar):
        raise NoBar("this is no bar of the party")


def slack(party, bar):
    """Return the slack of a bar."""
    need_bar(party, bar)
    first, second = bar
    return Scales(party).slack(first, second)


def odd_lots(party, bar):
    """Return the ascending list of the odd lots of a bar, each an ascending tuple."""
    need_bar(party, bar)
    first, second = bar
    return Scales(party).odd_lots(first, second)


def bars_it(party, thing):
    """Tell whether any object is a bar that bars a party."""
    return is_bar(party, thing) and slack(party, thing) < 0


def bar_of(party):
    """Return a bar that bars a party, or None if it has a meeting."""
    # A meeting is found much faster than it is seen that there is no bar.
    if least_meeting(party) is not None:
        return None
    return Scales(party).barring()


def need_meeting(party):
    """Raise NoParty if this is no party, then NoMeeting, with a bar, if it has no meeting."""
    bar = bar_of(party)
    if bar is not None:
        raise NoMeeting(bar)


def row(numbers, k):
    """Return the tuple (k, left, right) of numbers that descend."""
    right = k * (k - 1) + sum([min(number, k) for number in numbers[k:]])
    return k, sum(numbers[:k]), right


def rows(party):
    """Return the list of the tuples (k, left, right) of a party without facts in which everybody told a number."""
    many = persons(party)
    numbers, met, apart = party
    if met or apart or None in numbers:
        raise Mismatch("this party has facts, or somebody told nothing")
    descending = sorted(numbers, reverse=True)
    return [row(descending, k) for k in range(1, many + 1)]
