"""Which pairs of a party surely met, which surely did not, and papers that show it."""

from metnumbers.bars import bar_of, bars_it, need_meeting
from metnumbers.meetings import is_meeting, least_meeting
from metnumbers.parties import all_pairs, need_pair, persons, with_apart, with_met
from metnumbers.ways import Ways


def state_in(having, total):
    """Return the state of a pair that so many of all meetings have."""
    if having == 0:
        return "apart"
    if having == total:
        return "met"
    return "open"


def states(party):
    """Return the dict from all pairs of a party's persons, ascending, to their states."""
    need_meeting(party)
    ways = Ways(party)
    total = ways.total()
    having = ways.having()
    return {pair: state_in(having.get(pair, 0), total) for pair in all_pairs(persons(party))}


def state_of(party, pair):
    """Return the state of a pair: met, apart or open."""
    need_pair(party, pair)
    return states(party)[pair]


def party_if_met(party, pair):
    """Return the party with a pair met, or None if it is known to be apart."""
    _, met, apart = party
    if pair in apart:
        return None
    return party if pair in met else with_met(party, pair)


def party_if_apart(party, pair):
    """Return the party with a pair apart, or None if it is known to be met."""
    _, met, apart = party
    if pair in met:
        return None
    return party if pair in apart else with_apart(party, pair)


def why_not(party):
    """Return what shows that there is no meeting: a bar that bars the party, None where there is no party."""
    if party is None:
        return None
    return bar_of(party)


def shows_why_not(party, thing):
    """Tell whether any object is what shows that there is no meeting."""
    if party is None:
        return thing is None
    return bars_it(party, thing)


def paper_of(party, pair):
    """Return a paper for a pair."""
    state = state_of(party, pair)
    if state == "met":
        return "met", why_not(party_if_apart(party, pair))
    if state == "apart":
        return "apart", why_not(party_if_met(party, pair))
    return "open", least_meeting(with_met(party, pair)), least_meeting(with_apart(party, pair))


def shows_sure(party, pair, word, thing):
    """Tell whether any two objects are the word and the other thing of a paper for a pair that is surely so."""
    if word == "met":
        return shows_why_not(party_if_apart(party, pair), thing)
    if word == "apart":
        return shows_why_not(party_if_met(party, pair), thing)
    return False


def shows_open(party, pair, word, one, other):
    """Tell whether any three objects are the word and the meetings of a paper for a pair that is open."""
    if word != "open" or not is_meeting(party, one) or not is_meeting(party, other):
        return False
    return pair in one and pair not in other


def shows_state(party, pair, thing):
    """Tell whether any object is a paper for a pair; a party without a meeting can have papers, too."""
    need_pair(party, pair)
    if not isinstance(thing, tuple):
        return False
    if len(thing) == 2:
        return shows_sure(party, pair, thing[0], thing[1])
    if len(thing) == 3:
        return shows_open(party, pair, thing[0], thing[1], thing[2])
    return False


def only_meeting(party):
    """Return the meeting of a party that has just one, otherwise None."""
    need_meeting(party)
    if Ways(party).total() > 1:
        return None
    return least_meeting(party)


def is_settled(party):
    """Tell whether no pair of a party is open."""
    # Two meetings differ in a pair, which is open then.
    return only_meeting(party) is not None
