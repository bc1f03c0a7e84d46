"""The meetings of a party: which objects they are, the least one, all of them, how many."""

from metnumbers.errors import NoFit
from metnumbers.parties import are_pairs, need_few, need_pair, need_party
from metnumbers.ways import Ways


def fits(party, thing):
    """Tell whether any object is a meeting of a right party."""
    numbers, met, apart = party
    if not are_pairs(thing, len(numbers)):
        return False
    if not all([pair in thing for pair in met]) or any([pair in thing for pair in apart]):
        return False
    counts = [0] * len(numbers)
    for pair in thing:
        for person in pair:
            counts[person] += 1
    return all([number is None or count == number for number, count in zip(numbers, counts)])


def is_meeting(party, thing):
    """Tell whether any object is a meeting of a party."""
    need_party(party)
    return fits(party, thing)


def need_fit(party, meeting):
    """Raise NoParty if this is no party, then NoFit if any object is no meeting of it."""
    if not is_meeting(party, meeting):
        raise NoFit("this is no meeting of the party")


def difference_of(meeting, other):
    """Return the ascending list of the pairs that are in just one of two right meetings."""
    return sorted([pair for pair in meeting if pair not in other] + [pair for pair in other if pair not in meeting])


def meetings(party):
    """Generate all meetings of a party, ascending."""
    need_party(party)
    ways = Ways(party)
    if ways.has_any():
        yield from ways.going_on(0, ways.start, ())


def least_meeting(party):
    """Return the least meeting of a party, or None if there is none."""
    need_party(party)
    return Ways(party).least()


def how_many(party):
    """Return the number of meetings of a party of up to six persons."""
    need_few(party)
    return Ways(party).total()


def how_many_with(party, pair):
    """Return the number of meetings of a party of up to six persons that have a pair."""
    need_pair(party, pair)
    need_few(party)
    # A pair that is apart is none of those that a meeting can have.
    return Ways(party).having().get(pair, 0)
