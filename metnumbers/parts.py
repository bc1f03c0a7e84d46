"""Which persons hang together by pairs.

Several persons are one integer here, a mask, in which the bit 1 << person of each of them is set.
"""

from metnumbers.parties import MOST_PERSONS

# How many bits the integers from 0 to 15 have.
BITS_OF = (0, 1, 1, 2, 1, 2, 2, 3, 1, 2, 2, 3, 2, 3, 3, 4)


def how_many_in(mask):
    """Return how many persons are in a mask."""
    return BITS_OF[mask & 15] + BITS_OF[mask >> 4]


def mask_of(persons):
    """Return the mask of different persons."""
    return sum([1 << person for person in persons])


def persons_in(mask):
    """Return the ascending tuple of the persons in a mask."""
    return tuple([person for person in range(mask.bit_length()) if mask >> person & 1])


def links_of(many, pairs):
    """Return the list, for each of so many persons, of the mask of those with whom it is in one of the pairs."""
    links = [0] * many
    for one, other in pairs:
        links[one] |= 1 << other
        links[other] |= 1 << one
    return links


def part_from(mask, within, links):
    """Return the mask of all persons within another mask that hang together with the persons of one."""
    todo = mask
    while todo:
        person = todo.bit_length() - 1
        near = links[person] & within & ~mask
        mask |= near
        todo ^= near | 1 << person
    return mask


def parts_in(within, links):
    """Return the list of the masks of the largest parts that hang together within a mask."""
    parts = []
    while within:
        parts.append(part_from(within & -within, within, links))
        within ^= parts[-1]
    return parts


def parts_of(members, pairs):
    """Return the ascending list of the largest sets of members that hang together by pairs among them."""
    links = links_of(MOST_PERSONS, pairs)
    return [persons_in(part) for part in parts_in(mask_of(members), links)]
