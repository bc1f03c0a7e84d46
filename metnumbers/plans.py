"""Plans of the least depth, by going through all questions that are open (point 9)."""


class Plans:
    """The plans that tell some meetings of a party apart. Several meetings are one integer, with a bit for each."""

    def __init__(self, several, pairs):
        self.several = several
        self.everything = (1 << len(several)) - 1
        self.splits = [
            (pair, sum([1 << at for at, meeting in enumerate(several) if pair in meeting]))
            for pair in pairs
        ]
        self.best = {}

    def best_for(self, mask):
        """Return the tuple of the least depth of a plan of several meetings, and the pair that it asks for first."""
        if mask not in self.best:
            open_ones = [(pair, having) for pair, having in self.splits if 0 < mask & having < mask]
            self.best[mask] = min([
                (1 + max(self.depth(mask & having), self.depth(mask & ~having)), pair)
                for pair, having in open_ones
            ])
        return self.best[mask]

    def depth(self, mask):
        """Return the least depth of a plan of some meetings."""
        if mask & mask - 1 == 0:
            return 0
        return self.best_for(mask)[0]

    def plan(self, mask):
        """Return a plan of some meetings of the least depth."""
        if mask & mask - 1 == 0:
            return "is", self.several[mask.bit_length() - 1]
        pair = self.best_for(mask)[1]
        having = sum([bits for other, bits in self.splits if other == pair])
        return "ask", pair, self.plan(mask & having), self.plan(mask & ~having)
