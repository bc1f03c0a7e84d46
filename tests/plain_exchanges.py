"""What point 8 says in its own words, slow and made without the package: exchanges, ways and switches."""

import functools
import itertools

from tests.plain import all_meetings, free, is_int


def neighbours(walk):
    """Return the pairs of those who stand next to one another."""
    return [tuple(sorted(two)) for two in zip(walk, walk[1:])]


def after(meeting, pairs):
    """Return a meeting with pairs exchanged."""
    return tuple(sorted(set(meeting) ^ set(pairs)))


def is_exchange_of(party, meeting, thing):
    """Tell whether any object is an exchange of a meeting."""
    many = len(party[0])
    if type(thing) is not tuple or len(thing) < 2 or not all(is_int(person) and 0 <= person < many for person in thing):
        return False
    pairs = neighbours(thing)
    if any(pair not in free(party) for pair in pairs) or len(set(pairs)) < len(pairs):
        return False
    sorts = [pair in meeting for pair in pairs]
    if any(sort == (sorts[0] if k % 2 == 0 else not sorts[0]) for k, sort in enumerate(sorts[1:])):
        return False
    return after(meeting, pairs) in all_meetings(party)


def walks(many, most):
    """Return all tuples of two or more of so many persons, up to a length."""
    return [walk for length in range(2, most + 1) for walk in itertools.product(range(many), repeat=length)]


def differing(one, other):
    return sorted(set(one) ^ set(other))


def is_way(party, meeting, other, thing):
    """Tell whether any object is a way from a meeting to another one."""
    if type(thing) is not list:
        return False
    now, used = meeting, []
    for exchange in thing:
        if not is_exchange_of(party, now, exchange):
            return False
        used += neighbours(exchange)
        now = after(now, neighbours(exchange))
    return sorted(used) == differing(meeting, other) and now == other


def trails(pairs, meeting):
    """Return the sets of pairs, as ascending tuples, of all walks along different ones of pairs, of both sorts by turns."""
    found = set()

    def go(person, used):
        found.add(tuple(sorted(used)))
        for pair in pairs:
            if person in pair and pair not in used and (pair in meeting) != (used[-1] in meeting):
                go(sum(pair) - person, used + [pair])

    for pair in pairs:
        go(pair[0], [pair])
        go(pair[1], [pair])
    return found


def fewest_exchanges(party, meeting, other):
    """Return the least number of exchanges of a way, by going through all ways."""
    right = set(all_meetings(party))

    @functools.lru_cache(maxsize=None)
    def fewest(now, left):
        if not left:
            return 0
        found = []
        for pairs in trails(left, now):
            # Each way has the first of the pairs at some time; exchanges of different pairs can change places.
            if left[0] in pairs and after(now, pairs) in right:
                found.append(1 + fewest(after(now, pairs), tuple(pair for pair in left if pair not in pairs)))
        return min(found, default=100)

    return fewest(meeting, tuple(differing(meeting, other)))


def switched(party, meeting):
    """Return the ascending list of the meetings that a switch leads to, by going through all walks of five."""
    four = itertools.permutations(range(len(party[0])), 4)
    rings = [ring + ring[:1] for ring in four]
    return sorted({after(meeting, neighbours(ring)) for ring in rings if is_exchange_of(party, meeting, ring)})


def switches_between(party, meeting):
    """Return the dict from each meeting that switches lead to, to the least number of them."""
    found, edge = {meeting: 0}, [meeting]
    while edge:
        now = edge.pop(0)
        for then in switched(party, now):
            if then not in found:
                found[then] = found[now] + 1
                edge.append(then)
    return found
