"""What would settle what is open: facts of a meeting, and questions one after the other."""

from metnumbers.bars import need_few_with_meeting
from metnumbers.choices import choices
from metnumbers.errors import Mismatch, NoPair, TooMany
from metnumbers.meetings import difference_of, fits, meetings, need_fit
from metnumbers.parties import are_pairs, free_of, is_free, is_pair, made_apart, made_met, need_party
from metnumbers.plans import Plans
from metnumbers.sure import meeting_otherwise
from metnumbers.ways import Ways

MOST_FREE = 10
MOST_MEETINGS = 12


def are_facts(party, thing):
    """Tell whether any object is facts of a right party."""
    return are_pairs(thing, len(party[0])) and all([is_free(party, pair) for pair in thing])


def need_facts(party, meeting, facts, about):
    """Raise as told_as and other_meeting do, each error ahead of those described later."""
    need_fit(party, meeting)
    if about is not None and not is_pair(about, len(party[0])):
        raise NoPair("this is no pair of the party's persons")
    if not are_facts(party, facts):
        raise Mismatch("these are no facts of the party")
    if about in facts:
        raise Mismatch("the pair is one of the facts")


def party_told(party, meeting, facts):
    """Return a right party told right facts as in a right meeting."""
    numbers, met, apart = party
    more_met = tuple([pair for pair in facts if pair in meeting])
    more_apart = tuple([pair for pair in facts if pair not in meeting])
    return numbers, tuple(sorted(met + more_met)), tuple(sorted(apart + more_apart))


def told_as(party, meeting, facts):
    """Return the party told facts as in a meeting."""
    need_facts(party, meeting, facts, None)
    return party_told(party, meeting, facts)


def next_to(party, meeting):
    """Return the least meeting of a right party that is not a right meeting, or None if there is none."""
    for other in meetings(party):
        if other != meeting:
            return other
    return None


def other_meeting(party, meeting, facts, *, about=None):
    """Return the least meeting of the party told facts that is another one, or has a pair about otherwise; or None."""
    need_facts(party, meeting, facts, about)
    told_party = party_told(party, meeting, facts)
    if about is None:
        return next_to(told_party, meeting)
    return meeting_otherwise(told_party, meeting, about) if is_free(told_party, about) else None


def differences(party, meeting):
    """Return the list of the differences between a right meeting and each other one of a right party."""
    return [difference_of(meeting, other) for other in meetings(party) if other != meeting]


def settling(party, meeting, *, about=None):
    """Return the first facts that settle a meeting, or a pair about, or None if there are none."""
    need_facts(party, meeting, (), about)
    free = free_of(party)
    if len(free) > MOST_FREE:
        raise TooMany(MOST_FREE)
    # Facts settle a meeting if they have a pair of each difference between it and another one.
    bits = {pair: 1 << at for at, pair in enumerate(free)}
    about_bit = bits.get(about, 0)
    masks = [sum([bits[pair] for pair in differing]) for differing in differences(party, meeting)]
    if about is not None:
        masks = [mask - about_bit for mask in masks if mask & about_bit]
    for facts in choices([pair for pair in free if pair != about]):
        told_mask = sum([bits[pair] for pair in facts])
        if all([mask & told_mask for mask in masks]):
            return facts
    return None


def best_question(party):
    """Return the open pair of which the more likely answer has the fewest meetings, and how many have it or not."""
    need_few_with_meeting(party)
    ways = Ways(party)
    total = ways.total()
    found = [(max(yes, total - yes), pair, yes) for pair, yes in ways.having().items() if 0 < yes < total]
    if not found:
        return None
    _, pair, yes = min(found)
    return pair, yes, total - yes


def plans_of(party):
    """Return the plans of a party, which has few persons and meetings, or raise what plan raises."""
    need_few_with_meeting(party)
    if Ways(party).total() > MOST_MEETINGS:
        raise TooMany(MOST_MEETINGS)
    found = list(meetings(party))
    return Plans(found, free_of(party))


def plan(party):
    """Return a plan of the least depth that a plan of the party has."""
    plans = plans_of(party)
    return plans.plan(plans.everything)


def fewest_questions(party):
    """Return the least depth that a plan of the party has."""
    plans = plans_of(party)
    return plans.depth(plans.everything)


def is_plan(party, thing):
    """Tell whether any object is a plan of a right party."""
    if not isinstance(thing, tuple):
        return False
    if len(thing) == 2 and thing[0] == "is":
        return fits(party, thing[1]) and next_to(party, thing[1]) is None
    if len(thing) != 4 or thing[0] != "ask":
        return False
    _, pair, yes, no = thing
    if not are_facts(party, (pair,)):
        return False
    # Each part that is a plan shows a meeting, so the pair is open.
    return is_plan(made_met(party, pair), yes) and is_plan(made_apart(party, pair), no)


def shows_plan(party, thing):
    """Tell whether any object is a plan of a party."""
    need_party(party)
    return is_plan(party, thing)
