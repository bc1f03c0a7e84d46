"""The choices from things, in the order of facts and of groups."""


def choices(things):
    """Return the list of all choices from ascending things: those of fewer first, those of as many ascending."""
    found = [()]
    for thing in things:
        found = found + [chosen + (thing,) for chosen in found]
    return sorted(sorted(found), key=len)
