"""Exchanges of a meeting, and the ways from a meeting to another one that they make."""

from metnumbers.errors import Mismatch, TooMany
from metnumbers.meetings import difference_of, fits, need_fit
from metnumbers.parties import MOST_COUNTED, free_of, is_person, pair_of
from metnumbers.trails import Trails, pairs_along


def is_walk(thing, many):
    """Tell whether any object is a tuple of two or more of so many persons."""
    return isinstance(thing, tuple) and len(thing) > 1 and all([is_person(person, many) for person in thing])


def led_to(meeting, pairs):
    """Return a meeting with pairs exchanged: those in it taken out, the others put in."""
    kept = [pair for pair in meeting if pair not in pairs]
    return tuple(sorted(kept + [pair for pair in pairs if pair not in meeting]))


def is_step(party, meeting, thing):
    """Tell whether any object is an exchange of a right meeting of a right party."""
    if not is_walk(thing, len(party[0])):
        return False
    pairs = pairs_along(thing)
    free = free_of(party)
    if len(pairs) > len(free) or len(set(pairs)) < len(pairs) or not all([pair in free for pair in pairs]):
        return False
    kinds = [pair in meeting for pair in pairs]
    if any([kind == next_kind for kind, next_kind in zip(kinds, kinds[1:])]):
        return False
    return fits(party, led_to(meeting, pairs))


def is_exchange(party, meeting, thing):
    """Tell whether any object is an exchange of a meeting."""
    need_fit(party, meeting)
    return is_step(party, meeting, thing)


def exchanged(party, meeting, exchange):
    """Return the meeting that an exchange of a meeting leads to."""
    if not is_exchange(party, meeting, exchange):
        raise Mismatch("this is no exchange of the meeting")
    return led_to(meeting, pairs_along(exchange))


def need_both_fit(party, meeting, other):
    """Raise NoParty if this is no party, then NoFit if the one, then the other, is no meeting of it."""
    need_fit(party, meeting)
    need_fit(party, other)


def difference(party, meeting, other):
    """Return the ascending list of the pairs that are in just one of two meetings."""
    need_both_fit(party, meeting, other)
    return difference_of(meeting, other)


def way(party, meeting, other):
    """Return a way from a meeting to another one with as few exchanges as a way can have."""
    need_both_fit(party, meeting, other)
    return [tuple(trail) for trail in Trails(meeting, difference_of(meeting, other)).fewest()]


def shows_way(party, meeting, other, thing):
    """Tell whether any object is a way from a meeting to another one."""
    need_both_fit(party, meeting, other)
    if not isinstance(thing, list):
        return False
    now = meeting
    unused = difference_of(meeting, other)
    for step in thing:
        if not is_step(party, now, step):
            return False
        pairs = pairs_along(step)
        if not all([pair in unused for pair in pairs]):
            return False
        unused = [pair for pair in unused if pair not in pairs]
        now = led_to(now, pairs)
    return not unused


def can_switch(free, meeting, pairs):
    """Tell whether pairs are free and none of them is in a meeting."""
    return all([pair in free and pair not in meeting for pair in pairs])


def switches_of(party, meeting):
    """Return the ascending list of the meetings that a switch of a right meeting leads to."""
    free = free_of(party)
    gone = [pair for pair in meeting if pair in free]
    found = []
    for at, (one, other) in enumerate(gone):
        for third, fourth in gone[at + 1:]:
            for near, far in ((third, fourth), (fourth, third)):
                put = [pair_of(one, near), pair_of(other, far)]
                if can_switch(free, meeting, put):
                    found.append(led_to(meeting, [(one, other), (third, fourth)] + put))
    return sorted(found)


def switches(party, meeting):
    """Return the ascending list of the meetings that a switch of a meeting leads to."""
    need_fit(party, meeting)
    return switches_of(party, meeting)


def steps_back(came_from, meeting):
    """Return the list of the meetings on the way to one, from the first one on."""
    found = [meeting]
    while came_from[found[-1]] is not None:
        found.append(came_from[found[-1]])
    found.reverse()
    return found


def switch_way(party, meeting, other):
    """Return the fewest meetings, from one to another one, from each of which a switch leads to the next, or None."""
    need_both_fit(party, meeting, other)
    if len(party[0]) > MOST_COUNTED:
        raise TooMany(MOST_COUNTED)
    came_from = {meeting: None}
    reached = [meeting]
    while reached and other not in came_from:
        last = reached
        reached = []
        for one in last:
            for after in switches_of(party, one):
                if after not in came_from:
                    came_from[after] = one
                    reached.append(after)
    return steps_back(came_from, other) if other in came_from else None
