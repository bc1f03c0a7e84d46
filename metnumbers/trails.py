"""The fewest trails through the pairs in which two meetings differ (point 8)."""

from metnumbers.parties import pair_of


def pairs_along(trail):
    """Return the list of the pairs of those who stand next to one another in a trail."""
    return [pair_of(one, other) for one, other in zip(trail, trail[1:])]


def is_ring(trail):
    """Tell whether a trail ends where it began, with a pair of the other kind than the first one."""
    return trail[0] == trail[-1] and len(trail) % 2 == 1


class Trails:
    """The pairs in which a meeting differs from another one, of two kinds: those in the meeting and those not in it.

    A trail has pairs of both kinds by turns. Who told a number is in as many pairs of the one kind as of the other, so
    that a trail can always go on from it, or has come back to it as a ring.
    """

    def __init__(self, meeting, differing):
        self.meeting = meeting
        self.unused = {
            True: [pair for pair in differing if pair in meeting],
            False: [pair for pair in differing if pair not in meeting],
        }

    def fewest(self):
        """Return the list of the fewest trails that have each of the pairs once between them."""
        trails = []
        start = self.end_to_be()
        while start is not None:
            person, kind = start
            trails.append(self.trail_from(person, kind))
            start = self.end_to_be()
        # Everybody is in as many pairs of both kinds now, so all that is left are rings.
        while self.unused[True]:
            ring = self.trail_from(self.unused[True][0][0], True)
            trails = self.put_together(trails, ring)
        return trails

    def end_to_be(self):
        """Return a person who is in more pairs of one kind than of the other, and this kind, or None."""
        for kind in (True, False):
            ones = [person for pair in self.unused[kind] for person in pair]
            others = [person for pair in self.unused[not kind] for person in pair]
            for person in ones:
                if ones.count(person) > others.count(person):
                    return person, kind
        return None

    def next_pair(self, person, kind):
        """Return a pair of a kind that a person is in, or None."""
        for pair in self.unused[kind]:
            if person in pair:
                return pair
        return None

    def trail_from(self, person, kind):
        """Return a trail from a person, with a pair of a kind first, as long as it goes on; use its pairs."""
        trail = [person]
        pair = self.next_pair(person, kind)
        while pair is not None:
            self.unused[kind].remove(pair)
            person = sum(pair) - person
            trail.append(person)
            kind = not kind
            pair = self.next_pair(person, kind)
        return trail

    def put_together(self, trails, ring):
        """Return trails with a ring put into those that it has a person in common with; two open ones stay two."""
        apart = []
        grown = ring
        for trail in trails:
            shared = [person for person in trail if person in grown]
            if shared and is_ring(grown):
                grown = self.spliced(trail, grown, shared[0])
            elif shared and is_ring(trail):
                grown = self.spliced(grown, trail, shared[0])
            else:
                apart.append(trail)
        return apart + [grown]

    def is_met_behind(self, trail, at):
        """Tell whether the pair that goes on from a place of a trail, not the last one, is in the meeting."""
        return pair_of(trail[at], trail[at + 1]) in self.meeting

    def spliced(self, trail, ring, person):
        """Return a trail with a ring put into it at a person that is in both."""
        # Whoever is last in a trail that is no ring is in no ring: the trail would have gone on along it.
        at = trail.index(person)
        start = ring.index(person)
        turned = ring[start:-1] + ring[:start] + [person]
        # The last pair of a ring is of the other kind than the first, so one of both ways round fits.
        if self.is_met_behind(turned, 0) != self.is_met_behind(trail, at):
            turned.reverse()
        return trail[:at] + turned + trail[at + 1:]
