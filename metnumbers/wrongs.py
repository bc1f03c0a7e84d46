"""Who told wrongly at least: groups of persons, and excuses among them."""

from metnumbers.bars import bars_on
from metnumbers.choices import choices
from metnumbers.errors import Mismatch
from metnumbers.meetings import fits
from metnumbers.parties import GREATEST_NUMBER, are_persons, need_party, need_person, told_by
from metnumbers.scales import scales_of
from metnumbers.ways import Ways


def groups_of(party):
    """Return the list of all groups of a right party, in their order."""
    return choices([person for person, number in enumerate(party[0]) if number is not None])


def groups(party):
    """Generate all groups of a party, in their order."""
    need_party(party)
    yield from groups_of(party)


def is_group(party, thing):
    """Tell whether any object is a group of a right party."""
    numbers = party[0]
    return are_persons(thing, len(numbers)) and all([numbers[person] is not None for person in thing])


def excused_by(party, group):
    """Return a right party excused by a right group."""
    numbers, met, apart = party
    return tuple([None if person in group else number for person, number in enumerate(numbers)]), met, apart


def excused(party, group):
    """Return the party excused by a group."""
    need_party(party)
    if not is_group(party, group):
        raise Mismatch("this is no group of the party")
    return excused_by(party, group)


def is_excuse(party, group):
    """Tell whether a group is an excuse."""
    return Ways(excused(party, group)).has_any()


def bar_among(scales, bars):
    """Return one of some bars that bars the party on the scales, or None."""
    for bar in bars:
        if bars_on(scales, bar):
            return bar
    return None


def least_excuse(party):
    """Return the tuple of the first excuse, a meeting of the party excused by it, and why no group ahead is one."""
    need_party(party)
    bars = []
    reasons = []
    for group in groups_of(party):
        other = excused_by(party, group)
        scales = scales_of(other)
        # A bar that bars the party without some numbers often bars it without others, and is found more slowly.
        bar = bar_among(scales, bars)
        if bar is None:
            meeting = Ways(other).least()
            if meeting is not None:
                return group, meeting, reasons
            bar = scales.barring()
            bars.append(bar)
        reasons.append((group, bar))


def shows_reason(party, group, thing):
    """Tell whether any object is a tuple of a group and a bar that bars the party excused by it."""
    if not isinstance(thing, tuple) or len(thing) != 2:
        return False
    # A group with True in it would be equal to one with 1.
    if not is_group(party, thing[0]) or thing[0] != group:
        return False
    return bars_on(scales_of(excused_by(party, group)), thing[1])


def shows_excuse(party, thing):
    """Tell whether any object is a tuple as least_excuse returns it."""
    need_party(party)
    if not isinstance(thing, tuple) or len(thing) != 3:
        return False
    group, meeting, reasons = thing
    if not is_group(party, group) or not fits(excused_by(party, group), meeting) or not isinstance(reasons, list):
        return False
    ahead = groups_of(party)
    ahead = ahead[:ahead.index(group)]
    if len(reasons) != len(ahead):
        return False
    return all([shows_reason(party, other, reason) for other, reason in zip(ahead, reasons)])


def excuses(party):
    """Return the ascending list of all excuses that have as few persons as the first one."""
    need_party(party)
    found = []
    for group in groups_of(party):
        if found and len(group) > len(found[0]):
            return found
        if Ways(excused_by(party, group)).has_any():
            found.append(group)
    return found


def right_numbers(party, person):
    """Return the ascending list of the numbers that a person can tell so that the party has a meeting."""
    need_person(party, person)
    return [
        number for number in range(GREATEST_NUMBER + 1)
        if Ways(told_by(party, person, number)).has_any()
    ]
