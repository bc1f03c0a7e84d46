"""Threes of meetings, all three pairs of whom met, and the chances of pairs."""

from math import gcd

from metnumbers.bars import need_few_with_meeting
from metnumbers.meetings import meetings, need_fit
from metnumbers.parties import all_pairs
from metnumbers.ways import Ways


def threes_among(many):
    """Return the ascending list of all threes of so many persons."""
    return [(one, other, third) for one, other in all_pairs(many) for third in range(other + 1, many)]


def pairs_within(three):
    """Return the list of the three pairs of a three."""
    one, other, third = three
    return [(one, other), (one, third), (other, third)]


def threes(party, meeting):
    """Return the ascending list of the threes of a meeting."""
    need_fit(party, meeting)
    return [three for three in threes_among(len(party[0])) if all([pair in meeting for pair in pairs_within(three)])]


def counted(party):
    """Return the dict from each number of threes, ascending, to the least meeting with so many and how many have it."""
    need_few_with_meeting(party)
    many = len(party[0])
    bits = {pair: 1 << at for at, pair in enumerate(all_pairs(many))}
    masks = [sum([bits[pair] for pair in pairs_within(three)]) for three in threes_among(many)]
    found = {}
    for meeting in meetings(party):
        taken = sum([bits[pair] for pair in meeting])
        number = len([mask for mask in masks if mask & taken == mask])
        least, count = found.get(number, (meeting, 0))
        found[number] = (least, count + 1)
    return {number: found[number] for number in sorted(found)}


def fewest_threes(party):
    """Return the least number of threes of a meeting, and the least meeting with so many."""
    found = counted(party)
    number = min(found)
    return number, found[number][0]


def most_threes(party):
    """Return the greatest number of threes of a meeting, and the least meeting with so many."""
    found = counted(party)
    number = max(found)
    return number, found[number][0]


def by_threes(party):
    """Return the dict from each number of threes that a meeting has, ascending, to how many meetings have so many."""
    return {number: count for number, (_, count) in counted(party).items()}


def fraction(number, total):
    """Return a fraction in lowest terms."""
    common = gcd(number, total)
    return number // common, total // common


def chances(party):
    """Return the dict from all pairs of a party's persons, ascending, to their chances."""
    need_few_with_meeting(party)
    ways = Ways(party)
    total = ways.total()
    having = ways.having()
    # A pair that is apart is none of those that a meeting can have.
    return {pair: fraction(having.get(pair, 0), total) for pair in all_pairs(len(party[0]))}
