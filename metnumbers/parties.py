"""Parties: what their persons tell, which pairs are known to have met and which not."""

from metnumbers.errors import Mismatch, NoPair, NoParty, TooMany
from metnumbers.names import is_integer

MOST_PERSONS = 8
MOST_COUNTED = 6
GREATEST_NUMBER = 20


def can_be_told(thing):
    """Tell whether any object is what a person can tell: a number from 0 to 20, or None for nothing."""
    return thing is None or is_integer(thing) and 0 <= thing <= GREATEST_NUMBER


def are_numbers(thing):
    """Tell whether any object is the numbers of a party."""
    if not isinstance(thing, tuple) or not 1 <= len(thing) <= MOST_PERSONS:
        return False
    return all([can_be_told(number) for number in thing])


def is_person(thing, many):
    """Tell whether any object is one of so many persons."""
    return is_integer(thing) and 0 <= thing < many


def are_persons(thing, many):
    """Tell whether any object is an ascending tuple of different ones of so many persons."""
    if not isinstance(thing, tuple) or not all([is_person(person, many) for person in thing]):
        return False
    return all([one < other for one, other in zip(thing, thing[1:])])


def pair_of(one, other):
    """Return the pair of two persons, which may be told either way round."""
    return (one, other) if one < other else (other, one)


def is_pair(thing, many):
    """Tell whether any object is a pair of so many persons."""
    if not isinstance(thing, tuple) or len(thing) != 2:
        return False
    one, other = thing
    return is_person(one, many) and is_person(other, many) and one < other


def are_pairs(thing, many):
    """Tell whether any object is an ascending tuple of different pairs of so many persons."""
    # Most parties know little, and they are looked at often.
    if thing == ():
        return True
    if not isinstance(thing, tuple):
        return False
    # Only pairs can be compared, so all have to be pairs before their order is looked at.
    if not all([is_pair(pair, many) for pair in thing]):
        return False
    return all([one < other for one, other in zip(thing, thing[1:])])


def all_pairs(many):
    """Return the ascending list of all pairs of so many persons."""
    return [(one, other) for one in range(many) for other in range(one + 1, many)]


def is_party(thing):
    """Tell whether any object is a party."""
    if not isinstance(thing, tuple) or len(thing) != 3:
        return False
    numbers, met, apart = thing
    if not are_numbers(numbers):
        return False
    if not are_pairs(met, len(numbers)) or not are_pairs(apart, len(numbers)):
        return False
    return not any([pair in met for pair in apart])


def need_party(party):
    """Raise NoParty if any object is no party."""
    if not is_party(party):
        raise NoParty("this is no party")


def need_pair(party, pair):
    """Raise NoParty if this is no party, then NoPair if any object is no pair of its persons."""
    if not is_pair(pair, persons(party)):
        raise NoPair("this is no pair of the party's persons")


def need_person(party, person):
    """Raise NoParty if this is no party, then Mismatch if any object is none of its persons."""
    if not is_person(person, persons(party)):
        raise Mismatch("this is none of the party's persons")


def need_few(party):
    """Raise NoParty if this is no party, then TooMany if it has more persons than meetings are counted of."""
    if persons(party) > MOST_COUNTED:
        raise TooMany(MOST_COUNTED)


def persons(party):
    """Return how many persons a party has."""
    need_party(party)
    return len(party[0])


def is_free(party, pair):
    """Tell whether a pair of a party is neither in met nor in apart."""
    return pair not in party[1] and pair not in party[2]


def free_of(party):
    """Return the ascending list of the free pairs of a right party."""
    known = set(party[1] + party[2])
    return [pair for pair in all_pairs(len(party[0])) if pair not in known]


def free_pairs(party):
    """Return the ascending list of the free pairs of a party."""
    need_party(party)
    return free_of(party)


def needs_of(party):
    """Return the list of the needs of a right party's persons, None for one who told nothing."""
    found = list(party[0])
    for pair in party[1]:
        for person in pair:
            if found[person] is not None:
                found[person] -= 1
    return found


def needs(party):
    """Return the list of the needs of a party's persons, None for one who told nothing."""
    need_party(party)
    return needs_of(party)


def put_in(pairs, pair):
    """Return ascending pairs with one more among them."""
    return tuple(sorted(pairs + (pair,)))


def taken_out(pairs, pair):
    """Return pairs without one of them, if it is there."""
    return tuple([other for other in pairs if other != pair])


def need_free(party, pair):
    """Raise as need_pair, then Mismatch if the pair is not free."""
    need_pair(party, pair)
    if not is_free(party, pair):
        raise Mismatch("this pair is not free")


def made_met(party, pair):
    """Return a right party with a free pair put into met."""
    numbers, met, apart = party
    return numbers, put_in(met, pair), apart


def made_apart(party, pair):
    """Return a right party with a free pair put into apart."""
    numbers, met, apart = party
    return numbers, met, put_in(apart, pair)


def with_met(party, pair):
    """Return the party with a free pair put into met."""
    need_free(party, pair)
    return made_met(party, pair)


def with_apart(party, pair):
    """Return the party with a free pair put into apart."""
    need_free(party, pair)
    return made_apart(party, pair)


def made_free(party, pair):
    """Return a right party with a pair taken out of met or of apart."""
    numbers, met, apart = party
    return numbers, taken_out(met, pair), taken_out(apart, pair)


def with_free(party, pair):
    """Return the party with a pair taken out of met or of apart."""
    need_pair(party, pair)
    if is_free(party, pair):
        raise Mismatch("this pair is free")
    return made_free(party, pair)


def told_by(party, person, number):
    """Return a right party in which a person tells another right number."""
    numbers, met, apart = party
    return numbers[:person] + (number,) + numbers[person + 1:], met, apart


def told(party, person, number):
    """Return the party in which a person tells another number, or by None nothing."""
    need_person(party, person)
    if not can_be_told(number):
        raise NoParty("this can't be a number of a party")
    return told_by(party, person, number)


def pairs_across(many, start):
    """Return the ascending list of the pairs of a person below start and one from start on."""
    return [(one, other) for one in range(start) for other in range(start, many)]


def two_sided(hosts, guests):
    """Return the party of hosts and, behind them, guests, in which only a host and a guest can meet."""
    if not isinstance(hosts, tuple) or not isinstance(guests, tuple):
        raise NoParty("hosts and guests tell tuples of numbers")
    numbers = hosts + guests
    if not are_numbers(numbers):
        raise NoParty("these can't be the numbers of a party")
    across = pairs_across(len(numbers), len(hosts))
    return numbers, (), tuple([pair for pair in all_pairs(len(numbers)) if pair not in across])


def moved(pairs, places):
    """Return pairs, ascending, with each person replaced by the one at its place in a list of persons."""
    return tuple(sorted([tuple(sorted([places[one], places[other]])) for one, other in pairs]))


def join(one, other):
    """Return the party of the persons of one and, behind them, those of the other, all across apart."""
    start = persons(one)
    many = start + persons(other)
    if many > MOST_PERSONS:
        raise NoParty("these are too many persons for a party")
    places = list(range(start, many))
    met = one[1] + moved(other[1], places)
    apart = one[2] + tuple(pairs_across(many, start)) + moved(other[2], places)
    return one[0] + other[0], met, tuple(sorted(apart))


def swapped(party, pair):
    """Return the party in which the two persons of a pair have changed places."""
    numbers, met, apart = party
    one, other = pair
    places = list(range(len(numbers)))
    places[one] = other
    places[other] = one
    return tuple([numbers[place] for place in places]), moved(met, places), moved(apart, places)


def look_alike(party):
    """Return the ascending list of the pairs of persons that can change places in a party."""
    return [pair for pair in all_pairs(persons(party)) if swapped(party, pair) == party]
