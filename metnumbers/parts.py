"""Which persons hang together by pairs."""


def made_one(parts, one, other):
    """Return parts with the part of one person and that of another one made one part."""
    both = [part for part in parts if one in part or other in part]
    rest = [part for part in parts if part not in both]
    return rest + [tuple(sorted([person for part in both for person in part]))]


def parts_of(members, pairs):
    """Return the ascending list of the largest sets of members that hang together by pairs among them."""
    parts = [(person,) for person in members]
    for one, other in pairs:
        if one in members and other in members:
            parts = made_one(parts, one, other)
    return sorted(parts)
