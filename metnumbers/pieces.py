"""Whether a party is surely in one piece, papers that show it, and meetings that are or are not in one piece."""

from metnumbers.bars import bars_on, met_or_barred
from metnumbers.errors import Mismatch
from metnumbers.joins import Joins
from metnumbers.meetings import need_fit
from metnumbers.parties import are_persons, free_of, is_pair, need_few, need_party, needs_of, persons
from metnumbers.parts import how_many_in, links_of, mask_of, parts_in, persons_in
from metnumbers.scales import Scales
from metnumbers.ways import Ways


def partings_of(many):
    """Return the ascending list of the partings of a party of so many persons."""
    found = [(0,)]
    for person in range(1, many):
        found = found + [parting + (person,) for parting in found]
    return sorted([parting for parting in found if len(parting) < many])


def partings(party):
    """Return the ascending list of the partings of a party."""
    return partings_of(persons(party))


def is_parting(thing, many):
    """Tell whether any object is a parting of a party of so many persons."""
    return are_persons(thing, many) and 0 in thing and len(thing) < many


def crosses(pair, parting):
    """Tell whether a pair crosses a parting."""
    one, other = pair
    return (one in parting) != (other in parting)


def cut_by(party, parting):
    """Return a right party cut by a right parting."""
    numbers, met, apart = party
    across = tuple([pair for pair in free_of(party) if crosses(pair, parting)])
    return numbers, met, tuple(sorted(apart + across))


def cut(party, parting):
    """Return the party cut by a parting."""
    if not is_parting(parting, persons(party)):
        raise Mismatch("this is no parting of the party")
    return cut_by(party, parting)


def pieces(party, meeting):
    """Return the ascending list of the pieces of a meeting, each an ascending tuple of persons."""
    need_fit(party, meeting)
    many = len(party[0])
    return [persons_in(part) for part in parts_in((1 << many) - 1, links_of(many, meeting))]


class Cuts:
    """A right party and the parties cut by its partings, told by masks as metnumbers.parts has them."""

    def __init__(self, party):
        self.party = party
        self.size = len(party[0])
        self.everyone = (1 << self.size) - 1
        self.needs = needs_of(party)
        self.links = links_of(self.size, free_of(party))
        self.met_links = links_of(self.size, party[1])

    def links_within(self, side):
        """Return the links of the party cut by a parting, of which this is one side."""
        beyond = self.everyone ^ side
        return [
            near & (side if side >> person & 1 else beyond)
            for person, near in enumerate(self.links)
        ]

    def scales(self, parting):
        """Return the scales of the party cut by a parting."""
        return Scales(self.needs, self.links_within(mask_of(parting)))

    def may_have_meeting(self, parting):
        """Tell whether no pair of met crosses a parting, and nobody needs more than there is on the same side of it."""
        side = mask_of(parting)
        if any([self.met_links[person] & ~side for person in parting]):
            return False
        near = self.links_within(side)
        return all([need is None or need <= how_many_in(near[person]) for person, need in enumerate(self.needs)])

    def open_partings(self):
        """Return the ascending list of the partings that may be crossed by no pair of a meeting."""
        return [parting for parting in partings_of(self.size) if self.may_have_meeting(parting)]

    def in_one_piece(self, meeting):
        """Tell whether a meeting is in one piece."""
        return len(parts_in(self.everyone, links_of(self.size, meeting))) == 1

    def always_crossed(self):
        """Tell whether each parting is crossed by a pair of each meeting."""
        for parting in self.open_partings():
            if Ways(cut_by(self.party, parting)).has_any():
                return False
        return True

    def why_crossed(self, parting):
        """Return what shows that a pair crosses a parting: one of met, or a bar that bars the party cut by it."""
        for pair in self.party[1]:
            if crosses(pair, parting):
                return pair
        return self.scales(parting).barring()

    def shows_crossed(self, parting, thing):
        """Tell whether any object is the tuple of a parting in a paper for being surely in one piece."""
        if not isinstance(thing, tuple) or len(thing) != 2:
            return False
        told_parting, why = thing
        # A parting with True in it would be equal to one with 1.
        if not is_parting(told_parting, self.size) or told_parting != parting:
            return False
        if is_pair(why, self.size):
            return why in self.party[1] and crosses(why, parting)
        return bars_on(self.scales(parting), why)


def parted_meeting(party):
    """Return the least meeting that is not in one piece, or None if there is none."""
    if persons(party) == 1:
        return None
    least = Ways(party).least()
    cuts = Cuts(party)
    if least is None or not cuts.in_one_piece(least):
        return least
    # Where no pair of met crosses a parting, the meetings of the party cut by it are those that no pair crosses it in.
    found = [Ways(cut_by(party, parting)).least() for parting in cuts.open_partings()]
    return min([meeting for meeting in found if meeting is not None], default=None)


def joined_meeting(party):
    """Return the least meeting that is in one piece of a party of up to six persons, or None if there is none."""
    need_few(party)
    return Joins(party).least()


def surely_one(party):
    """Tell whether a party is surely in one piece."""
    need_party(party)
    meeting = met_or_barred(party)
    cuts = Cuts(party)
    return cuts.in_one_piece(meeting) and cuts.always_crossed()


def one_paper(party):
    """Return a paper for being surely in one piece, or None if the party is not."""
    if not surely_one(party):
        return None
    cuts = Cuts(party)
    return [(parting, cuts.why_crossed(parting)) for parting in partings_of(cuts.size)]


def shows_one(party, thing):
    """Tell whether any object is a paper for being surely in one piece; a party without a meeting can have one, too."""
    partings_told = partings(party)
    if not isinstance(thing, list) or len(thing) != len(partings_told):
        return False
    if not thing:
        return True
    cuts = Cuts(party)
    return all([cuts.shows_crossed(parting, row) for parting, row in zip(partings_told, thing)])
