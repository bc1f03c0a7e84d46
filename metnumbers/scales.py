"""The scales on which the bars of a party are weighed (point 5)."""

from metnumbers.parties import free_of, needs_of
from metnumbers.parts import how_many_in, links_of, mask_of, parts_in, persons_in


class Scales:
    """The needs of a party's persons, and its free pairs as links; the sides S and T of a bar are first and second.

    Sides and lots are masks, as metnumbers.parts has them.
    """

    def __init__(self, needs, links):
        self.needs = needs
        self.links = links
        self.everyone = (1 << len(needs)) - 1
        self.silent = mask_of([person for person, need in enumerate(needs) if need is None])
        self.odd_needs = mask_of([person for person, need in enumerate(needs) if need is not None and need % 2 == 1])
        self.told_lots = {}

    def lots_beside(self, both):
        """Return the list of the lots beside a mask of both sides in which all persons told a number."""
        if both not in self.told_lots:
            lots = parts_in(self.everyone & ~both, self.links)
            self.told_lots[both] = [(lot, self.across_oddly(lot)) for lot in lots if lot & self.silent == 0]
        return self.told_lots[both]

    def across_oddly(self, lot):
        """Return the mask of the persons who have an odd number of links with a lot."""
        found = 0
        for person in persons_in(lot):
            found ^= self.links[person]
        return found

    def odd_lots(self, first, second):
        """Return the list of the odd lots beside both sides."""
        return [
            lot for lot, across in self.lots_beside(first | second)
            if (how_many_in(lot & self.odd_needs) + how_many_in(across & second)) % 2 == 1
        ]

    def weight_in_first(self, person):
        """Return what a person of the first side adds to the slack."""
        need = self.needs[person]
        return how_many_in(self.links[person]) if need is None else need

    def weight_in_second(self, person, first):
        """Return what a person of the second side adds to the slack beside a first side."""
        free = how_many_in(self.links[person] & ~first)
        need = self.needs[person]
        return free if need is None else free - need

    def slack(self, first, second):
        """Return the slack of a bar."""
        gain = sum([self.weight_in_first(person) for person in persons_in(first)])
        gain += sum([self.weight_in_second(person, first) for person in persons_in(second)])
        return gain - len(self.odd_lots(first, second))

    def weights_beside(self, first):
        """Return the list of (person, its weight in the second side, the least that it adds beside both sides)."""
        # Whoever is beside both sides may be an odd lot alone; who told nothing is in none.
        return [
            (person, self.weight_in_second(person, first), 0 if self.needs[person] is None else -1)
            for person in persons_in(self.everyone & ~first)
        ]

    def bars(self, first, second, total):
        """Tell whether a bar with such a slack, but for its lots, has a slack below 0."""
        return total < 0 or total < len(self.odd_lots(first, second))

    def second_beside(self, first, gain):
        """Return the least second side of a bar that bars beside a first side, which adds a gain; None if none does."""
        weights = self.weights_beside(first)
        rest = sum([min(weight, alone) for _, weight, alone in weights])
        if gain + rest < 0 and self.bars(first, 0, gain):
            return 0
        # Of each side: its mask, the slack but for the lots, and what the slack is at least, the later persons apart.
        sides = [(0, gain, gain)] if gain + rest < 0 else []
        for person, weight, alone in weights:
            rest -= min(weight, alone)
            bit = 1 << person
            put = [(side + bit, total + weight, low + weight) for side, total, low in sides if low + weight + rest < 0]
            for side, total, _ in put:
                if self.bars(first, side, total):
                    return side
            sides = [(side, total, low + alone) for side, total, low in sides if low + alone + rest < 0] + put
        return None

    def barring(self):
        """Return the first bar with a slack below 0, the sides ascending as masks, or None if there is none."""
        gains = [0]
        for person in persons_in(self.everyone):
            weight = self.weight_in_first(person)
            gains = gains + [gain + weight for gain in gains]
        for first, gain in enumerate(gains):
            second = self.second_beside(first, gain)
            if second is not None:
                return persons_in(first), persons_in(second)
        return None


def scales_of(party):
    """Return the scales of a right party."""
    return Scales(needs_of(party), links_of(len(party[0]), free_of(party)))
