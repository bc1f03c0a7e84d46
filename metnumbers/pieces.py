"""Whether a party is surely in one piece, papers that show it, and meetings that are or are not in one piece."""

from metnumbers.bars import bar_of, bars_it, need_meeting
from metnumbers.errors import Mismatch
from metnumbers.meetings import least_meeting, meetings, need_fit
from metnumbers.parties import are_persons, free_pairs, is_pair, need_few, persons
from metnumbers.parts import parts_of


def partings(party):
    """Return the ascending list of the partings of a party."""
    many = persons(party)
    found = [(0,)]
    for person in range(1, many):
        found = found + [parting + (person,) for parting in found]
    return sorted([parting for parting in found if len(parting) < many])


def is_parting(party, thing):
    """Tell whether any object is a parting of a party."""
    many = persons(party)
    return are_persons(thing, many) and 0 in thing and len(thing) < many


def crosses(pair, parting):
    """Tell whether a pair crosses a parting."""
    one, other = pair
    return (one in parting) != (other in parting)


def cut(party, parting):
    """Return the party cut by a parting."""
    if not is_parting(party, parting):
        raise Mismatch("this is no parting of the party")
    numbers, met, apart = party
    across = tuple([pair for pair in free_pairs(party) if crosses(pair, parting)])
    return numbers, met, tuple(sorted(apart + across))


def pieces_of(party, meeting):
    """Return the ascending list of the pieces of what is known to be a meeting."""
    return parts_of(list(range(persons(party))), meeting)


def pieces(party, meeting):
    """Return the ascending list of the pieces of a meeting, each an ascending tuple of persons."""
    need_fit(party, meeting)
    return pieces_of(party, meeting)


def met_across(party, parting):
    """Return the ascending list of the pairs of met that cross a parting."""
    return [pair for pair in party[1] if crosses(pair, parting)]


def parted_meeting(party):
    """Return the least meeting that is not in one piece, or None if there is none."""
    # Where no pair of met crosses a parting, the meetings of the party cut by it are those that no pair crosses it in.
    open_ones = [parting for parting in partings(party) if not met_across(party, parting)]
    found = [least_meeting(cut(party, parting)) for parting in open_ones]
    return min([meeting for meeting in found if meeting is not None], default=None)


def joined_meeting(party):
    """Return the least meeting that is in one piece of a party of up to six persons, or None if there is none."""
    need_few(party)
    for meeting in meetings(party):
        if len(pieces_of(party, meeting)) == 1:
            return meeting
    return None


def surely_one(party):
    """Tell whether a party is surely in one piece."""
    need_meeting(party)
    return parted_meeting(party) is None


def why_crossed(party, parting):
    """Return what shows that a pair crosses a parting: one of met, or a bar that bars the party cut by it."""
    across = met_across(party, parting)
    return across[0] if across else bar_of(cut(party, parting))


def one_paper(party):
    """Return a paper for being surely in one piece, or None if the party is not."""
    if not surely_one(party):
        return None
    return [(parting, why_crossed(party, parting)) for parting in partings(party)]


def shows_crossed(party, parting, thing):
    """Tell whether any object is the tuple of a parting in a paper for being surely in one piece."""
    if not isinstance(thing, tuple) or len(thing) != 2:
        return False
    told_parting, why = thing
    # A parting with True in it would be equal to one with 1.
    if not is_parting(party, told_parting) or told_parting != parting:
        return False
    if is_pair(why, persons(party)):
        return why in met_across(party, parting)
    return bars_it(cut(party, parting), why)


def shows_one(party, thing):
    """Tell whether any object is a paper for being surely in one piece; a party without a meeting can have one, too."""
    partings_told = partings(party)
    if not isinstance(thing, list) or len(thing) != len(partings_told):
        return False
    return all([shows_crossed(party, parting, row) for parting, row in zip(partings_told, thing)])
