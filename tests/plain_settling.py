"""What points 9 and 10 say in their own words, slow and made without the package: facts, plans, groups and excuses."""

from tests.plain import all_meetings, among, bars, choices, free, is_int


def in_order(things):
    """Return all choices from things in the order of facts and of groups."""
    return sorted(choices(things), key=lambda chosen: (len(chosen), chosen))


def told_facts(party, meeting, facts):
    """Return the party told facts as in a meeting."""
    met = [pair for pair in facts if pair in meeting]
    apart = [pair for pair in facts if pair not in meeting]
    return party[0], tuple(sorted(party[1] + tuple(met))), tuple(sorted(party[2] + tuple(apart)))


def others(party, meeting, facts, about=None):
    """Return the ascending list of the meetings of the party told facts that are other ones, or have about otherwise."""
    alike = [
        one for one in all_meetings(party) if one != meeting and all((pair in one) == (pair in meeting) for pair in facts)
    ]
    return [one for one in alike if about is None or (about in one) != (about in meeting)]


def first_settling(party, meeting, about=None):
    """Return the first facts that settle a meeting or a pair, or None, by going through all facts in their order."""
    for facts in in_order(free(party)):
        if about not in facts and not others(party, meeting, facts, about):
            return facts
    return None


def open_pairs(party):
    right = all_meetings(party)
    return [pair for pair in free(party) if 0 < sum(pair in meeting for meeting in right) < len(right)]


def best_of(party):
    """Return the best question of a party, or None."""
    found = []
    for pair in open_pairs(party):
        yes = sum(pair in meeting for meeting in all_meetings(party))
        no = len(all_meetings(party)) - yes
        found.append((max(yes, no), pair, yes, no))
    return min(found)[1:] if found else None


def least_depth(meetings):
    """Return the least depth of a plan, by going through all plans."""
    if len(meetings) == 1:
        return 0
    found = []
    for pair in sorted({pair for meeting in meetings for pair in meeting}):
        yes = [meeting for meeting in meetings if pair in meeting]
        no = [meeting for meeting in meetings if pair not in meeting]
        if yes and no:
            found.append(1 + max(least_depth(yes), least_depth(no)))
    return min(found)


def depth_of(plan):
    """Return the depth of a plan by the words of point 9."""
    return 0 if plan[0] == "is" else 1 + max(depth_of(plan[2]), depth_of(plan[3]))


def is_plan_of(party, thing):
    """Tell whether any object is a plan of a party by the words of point 9."""
    if type(thing) is not tuple or not thing or not among(thing[0], ["is", "ask"]):
        return False
    if thing[0] == "is":
        return len(thing) == 2 and len(all_meetings(party)) == 1 and among(thing[1], all_meetings(party))
    if len(thing) != 4 or not among(thing[1], open_pairs(party)):
        return False
    pair = thing[1]
    yes, no = told_facts(party, (pair,), (pair,)), told_facts(party, (), (pair,))
    return is_plan_of(yes, thing[2]) and is_plan_of(no, thing[3])


def all_groups(party):
    return in_order([person for person, number in enumerate(party[0]) if number is not None])


def without(party, group):
    """Return the party excused by a group."""
    return tuple(None if k in group else number for k, number in enumerate(party[0])), party[1], party[2]


def all_excuses(party):
    """Return all excuses, in their order."""
    return [group for group in all_groups(party) if all_meetings(without(party, group))]


def is_excuse_tuple(party, thing):
    """Tell whether any object is a tuple as least_excuse returns it."""
    if type(thing) is not tuple or len(thing) != 3 or not among(thing[0], all_excuses(party)[:1]):
        return False
    group, meeting, reasons = thing
    ahead = all_groups(party)[:all_groups(party).index(group)]
    if not among(meeting, all_meetings(without(party, group))) or type(reasons) is not list:
        return False
    if len(reasons) != len(ahead):
        return False
    return all(
        type(row) is tuple and len(row) == 2 and repr(row[0]) == repr(other) and bars(without(party, other), row[1])
        for other, row in zip(ahead, reasons)
    )


def numbers_right_for(party, person):
    """Return the numbers from 0 to 20 with which the party has a meeting, by asking with each."""
    assert is_int(person)
    found = []
    for number in range(21):
        numbers = party[0][:person] + (number,) + party[0][person + 1:]
        if all_meetings((numbers, party[1], party[2])):
            found.append(number)
    return found
