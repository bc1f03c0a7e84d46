"""The least meeting of a party that is in one piece."""

from metnumbers.ways import GUARDS, Ways


def joined(parts, pair):
    """Return the ascending tuple of parts, told by masks, behind two persons have met."""
    one, other = pair
    both = 1 << one | 1 << other
    within = [part for part in parts if part & both]
    return tuple(sorted([part for part in parts if not part & both] + [sum(within)]))


class Joins:
    """The ways through the pairs of a right party, with the parts that hang together by the pairs taken so far."""

    def __init__(self, party):
        self.ways = Ways(party)
        self.alone = tuple([1 << person for person in range(len(party[0]))])
        self.failed = {}

    def least(self):
        """Return the least meeting that is in one piece, or None if there is none."""
        return self.rest(0, self.ways.start, self.alone) if self.ways.possible else None

    def rest(self, place, left, parts):
        """Return the least pairs from a place on that leave nothing to anybody and join the parts, or None."""
        if left == 0 and place >= self.ways.behind_met and len(parts) == 1:
            return ()
        key = (place, left, parts)
        if place == len(self.ways.pairs) or key in self.failed or not self.ways.can(place, left):
            return None
        # Whoever begins with a pair comes ahead of whoever has only later ones.
        pair = self.ways.pairs[place]
        taken = (left | GUARDS) - self.ways.steps[place]
        if taken & GUARDS == GUARDS:
            found = self.rest(place + 1, taken ^ GUARDS, joined(parts, pair))
            if found is not None:
                return (pair,) + found
        found = self.rest(place + 1, left, parts) if self.ways.can_leave(place, left) else None
        if found is None:
            self.failed[key] = True
        return found
