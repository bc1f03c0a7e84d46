"""Which pairs of a party surely met, which surely did not, and papers that show it."""

from metnumbers.bars import bars_on, met_or_barred
from metnumbers.meetings import difference_of, fits, meetings
from metnumbers.parties import all_pairs, free_of, made_apart, made_met, need_pair, need_party
from metnumbers.scales import scales_of
from metnumbers.ways import Ways


def party_otherwise(party, meeting, pair):
    """Return the party in which a free pair is known to be otherwise than in a meeting."""
    return made_apart(party, pair) if pair in meeting else made_met(party, pair)


def meeting_otherwise(party, meeting, pair):
    """Return the least meeting in which a free pair is otherwise than in a meeting, or None if there is none."""
    return Ways(party_otherwise(party, meeting, pair)).least()


def open_among(party, meeting):
    """Return the list of the pairs that are not in all meetings of a party alike, one of which is given."""
    found = []
    for pair in free_of(party):
        if pair not in found:
            other = meeting_otherwise(party, meeting, pair)
            if other is not None:
                # What the other meeting shows of later pairs needs no meeting of its own.
                found += [differing for differing in difference_of(meeting, other) if differing not in found]
    return found


def state_beside(meeting, open_ones, pair):
    """Return the state of a pair of a party with a meeting, of whose pairs some are open."""
    if pair in open_ones:
        return "open"
    return "met" if pair in meeting else "apart"


def states(party):
    """Return the dict from all pairs of a party's persons, ascending, to their states."""
    need_party(party)
    meeting = met_or_barred(party)
    open_ones = open_among(party, meeting)
    return {pair: state_beside(meeting, open_ones, pair) for pair in all_pairs(len(party[0]))}


def state_of(party, pair):
    """Return the state of a pair: met, apart or open."""
    need_pair(party, pair)
    meeting = met_or_barred(party)
    known = pair in party[1] or pair in party[2]
    if not known and meeting_otherwise(party, meeting, pair) is not None:
        return "open"
    return "met" if pair in meeting else "apart"


def paper_of(party, pair):
    """Return a paper for a pair."""
    need_pair(party, pair)
    meeting = met_or_barred(party)
    if pair in party[1]:
        return "met", None
    if pair in party[2]:
        return "apart", None
    otherwise = party_otherwise(party, meeting, pair)
    other = Ways(otherwise).least()
    if pair in meeting:
        return ("met", scales_of(otherwise).barring()) if other is None else ("open", meeting, other)
    return ("apart", scales_of(otherwise).barring()) if other is None else ("open", other, meeting)


def shows_sure(party, pair, is_met, thing):
    """Tell whether any object shows that a pair is met, or apart: None, or a bar of the party with it otherwise."""
    _, met, apart = party
    if pair in (met if is_met else apart):
        return thing is None
    if pair in (apart if is_met else met):
        return bars_on(scales_of(party), thing)
    otherwise = made_apart(party, pair) if is_met else made_met(party, pair)
    return bars_on(scales_of(otherwise), thing)


def shows_open(party, pair, one, other):
    """Tell whether any two objects are meetings, one with a pair and one without it."""
    return fits(party, one) and fits(party, other) and pair in one and pair not in other


def shows_state(party, pair, thing):
    """Tell whether any object is a paper for a pair; a party without a meeting can have papers, too."""
    need_pair(party, pair)
    if not isinstance(thing, tuple):
        return False
    if len(thing) == 2 and thing[0] in ("met", "apart"):
        return shows_sure(party, pair, thing[0] == "met", thing[1])
    return len(thing) == 3 and thing[0] == "open" and shows_open(party, pair, thing[1], thing[2])


def only_meeting(party):
    """Return the meeting of a party that has just one, otherwise None."""
    need_party(party)
    least = met_or_barred(party)
    for meeting in meetings(party):
        if meeting != least:
            return None
    return least


def is_settled(party):
    """Tell whether no pair of a party is open."""
    # Two meetings differ in a pair, which is open then.
    return only_meeting(party) is not None
