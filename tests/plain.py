"""What the document says in its own words, as plainly as can be: slow, and made without the package."""

import functools
import itertools
import random


def is_int(thing):
    return type(thing) is int


def among(thing, rights):
    """Tell whether any object is one of some right ones, also in its kinds: True is not 1, a list no tuple."""
    return repr(thing) in [repr(right) for right in rights]


def pairs_of(many):
    return list(itertools.combinations(range(many), 2))


def choices(things):
    """Return the list of all choices from ascending things, as ascending tuples."""
    return [chosen for k in range(len(things) + 1) for chosen in itertools.combinations(things, k)]


def free(party):
    return [pair for pair in pairs_of(len(party[0])) if pair not in party[1] and pair not in party[2]]


def fits(numbers, pairs):
    return all(
        number is None or number == sum(person in pair for pair in pairs) for person, number in enumerate(numbers)
    )


@functools.lru_cache(maxsize=None)
def all_meetings(party):
    """Return all meetings of a party, ascending, by going through all lots of free pairs (point 4)."""
    numbers, met, _ = party
    lots = [tuple(sorted(met + chosen)) for chosen in choices(free(party))]
    return tuple(sorted(lot for lot in lots if fits(numbers, lot)))


def free_between(party, ones, others):
    """Return how many free pairs there are with one person among ones and the other among others."""
    return sum((a in ones and b in others) or (b in ones and a in others) for a, b in free(party))


def need(party, person):
    number = party[0][person]
    return None if number is None else number - sum(person in pair for pair in party[1])


def hanging(persons, pairs):
    """Return the largest sets of persons that hang together by pairs, as an ascending list of ascending tuples."""
    found = []
    for person in persons:
        part, ahead = {person}, None
        while part != ahead:
            ahead = set(part)
            for one, other in pairs:
                if one in persons and other in persons and (one in part or other in part):
                    part |= {one, other}
        if tuple(sorted(part)) not in found:
            found.append(tuple(sorted(part)))
    return sorted(found)


def odd_lots_of(party, bar):
    """Return the odd lots of a bar by the words of point 5."""
    first, second = bar
    rest = [person for person in range(len(party[0])) if person not in first + second]
    found = []
    for lot in hanging(rest, free(party)):
        lot_needs = [need(party, person) for person in lot]
        if None not in lot_needs and (sum(lot_needs) + free_between(party, lot, second)) % 2 == 1:
            found.append(lot)
    return found


def slack_of(party, bar):
    """Return the slack of a bar by the words of point 5."""
    first, second = bar
    everyone = list(range(len(party[0])))
    others = [person for person in everyone if person not in first]
    total = 0
    for person in first:
        told = need(party, person)
        total += free_between(party, [person], everyone) if told is None else told
    for person in second:
        told = need(party, person)
        total += free_between(party, [person], others) - (0 if told is None else told)
    return total - len(odd_lots_of(party, bar))


def all_bars(many):
    """Return all bars of so many persons."""
    sides = choices(range(many))
    return [(first, second) for first in sides for second in sides if not set(first) & set(second)]


def bars(party, thing):
    """Tell whether any object is a bar that bars a party."""
    return among(thing, all_bars(len(party[0]))) and slack_of(party, thing) < 0


def put_in(party, pairs, met=()):
    """Return the party with free pairs put into apart, and others into met."""
    return party[0], tuple(sorted(party[1] + tuple(met))), tuple(sorted(party[2] + tuple(pairs)))


def state(party, pair):
    """Return the state of a pair of a party with a meeting by the words of point 6."""
    having = [pair in meeting for meeting in all_meetings(party)]
    return "met" if all(having) else "open" if any(having) else "apart"


def is_state_paper(party, pair, thing):
    """Tell whether any object is a paper for a pair by the words of point 6."""
    if type(thing) is not tuple or thing[:1] not in [("met",), ("apart",), ("open",)]:
        return False
    known = pair not in free(party)
    if thing[0] == "open":
        if len(thing) != 3 or not all(among(meeting, all_meetings(party)) for meeting in thing[1:]):
            return False
        return pair in thing[1] and pair not in thing[2]
    if len(thing) != 2:
        return False
    if thing[0] == "met":
        if pair in party[1]:
            return thing[1] is None
        return bars(party if known else put_in(party, [pair]), thing[1])
    if pair in party[2]:
        return thing[1] is None
    return bars(party if known else put_in(party, [], [pair]), thing[1])


def all_partings(party):
    """Return all partings of a party, ascending, by the words of point 7."""
    everyone = tuple(range(len(party[0])))
    return sorted(chosen for chosen in choices(everyone) if 0 in chosen and chosen != everyone)


def crossing(pairs, parting):
    return [pair for pair in pairs if (pair[0] in parting) + (pair[1] in parting) == 1]


def cut_by(party, parting):
    return put_in(party, crossing(free(party), parting))


def pieces_of(party, meeting):
    return hanging(list(range(len(party[0]))), meeting)


def is_one_paper(party, thing):
    """Tell whether any object is a paper for being surely in one piece by the words of point 7."""
    partings = all_partings(party)
    if type(thing) is not list or len(thing) != len(partings):
        return False
    for row, parting in zip(thing, partings):
        if type(row) is not tuple or len(row) != 2 or repr(row[0]) != repr(parting):
            return False
        if not among(row[1], crossing(party[1], parting)) and not bars(cut_by(party, parting), row[1]):
            return False
    return True


def small_parties(numbers=(0, 1, 2, None), most=3):
    """Return all parties of up to so many persons who tell such numbers, with all facts."""
    parties = []
    for many in range(1, most + 1):
        pairs = pairs_of(many)
        for told in itertools.product(numbers, repeat=many):
            for kinds in itertools.product((0, 1, 2), repeat=len(pairs)):
                met = tuple(pair for pair, kind in zip(pairs, kinds) if kind == 1)
                apart = tuple(pair for pair, kind in zip(pairs, kinds) if kind == 2)
                parties.append((told, met, apart))
    return parties


def drawn_party(draw, many):
    """Return a party near to one that has a meeting, with few or many facts and persons who told nothing."""
    often_met, often_apart = draw.choice([(0, 0), (0.1, 0), (0, 0.3), (0.05, 0.1), (0.2, 0.4)])
    often_together, often_nothing = draw.choice([0.2, 0.5, 0.8]), draw.choice([0, 0.15, 0.4])
    met, apart, meeting = [], [], []
    for pair in pairs_of(many):
        drawn = draw.random()
        if drawn < often_met:
            met.append(pair)
        elif drawn < often_met + often_apart:
            apart.append(pair)
        if pair in met or pair not in apart and draw.random() < often_together:
            meeting.append(pair)
    numbers = [sum(person in pair for pair in meeting) for person in range(many)]
    for _ in range(draw.choice([0, 0, 1, 2])):
        person = draw.randrange(many)
        numbers[person] = max(0, numbers[person] + draw.choice([-2, -1, 1, 2]))
    told = tuple(None if draw.random() < often_nothing else number for number in numbers)
    return told, tuple(met), tuple(apart)


def drawn_parties(seed, sizes, how_many):
    """Return so many drawn parties of each of some sizes, the same ones each time."""
    draw = random.Random(seed)
    return [drawn_party(draw, many) for many in sizes for _ in range(how_many)]


def changed(thing):
    """Return the list of objects that differ from one in one thing: of another kind, missing, doubled, swapped."""
    found = [None, [thing], (thing,), {0: thing}]
    if isinstance(thing, (tuple, list)):
        rows = list(thing)
        found.append(rows if isinstance(thing, tuple) else tuple(rows))
        found.append(dict(enumerate(rows)))
        made = [rows + [None], [()] + rows]
        for k, row in enumerate(rows):
            made += [rows[:k] + rows[k + 1:], rows[:k] + [row, row] + rows[k + 1:]]
            made += [rows[:k] + [other] + rows[k + 1:] for other in changed(row)]
            if k > 0:
                made.append(rows[:k - 1] + [row, rows[k - 1]] + rows[k + 1:])
        found += [type(thing)(other) for other in made]
    elif is_int(thing):
        found += [thing - 1, thing + 1, thing + 8, -thing - 1, str(thing), thing == 1]
    elif isinstance(thing, str):
        found += ["", thing + " ", thing.upper(), "met", "apart", "open", "is"]
    elif thing is None:
        found += [0, False, "", (), ((), ()), ((0,), ())]
    return found
