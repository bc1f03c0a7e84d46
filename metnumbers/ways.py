"""The ways through the pairs of a party, taken or left out one after the other, that end in a meeting."""

from metnumbers.parties import all_pairs, count_with, need_party


def one_less(left, pair):
    """Return what is left to each person behind one more pair, None for who told nothing."""
    return tuple([
        number - 1 if number is not None and person in pair else number
        for person, number in enumerate(left)
    ])


class Ways:
    """The ways through the pairs that are not known to be apart, ascending.

    At a place all pairs ahead of it are decided. What is left tells of each person how many of the pairs from there on
    have to be taken. Many ways lead to the same place with the same numbers left, so what follows is counted only once:
    there are only thousands of such states, also where there are millions of meetings.
    """

    def __init__(self, party):
        need_party(party)
        numbers, met, apart = party
        self.numbers = numbers
        self.met = met
        self.pairs = [pair for pair in all_pairs(len(numbers)) if pair not in apart]
        self.most = [
            [count_with(self.pairs[place:], person) for person in range(len(numbers))]
            for place in range(len(self.pairs) + 1)
        ]
        self.behind_met = max([place + 1 for place, pair in enumerate(self.pairs) if pair in met], default=0)
        self.counted = {}

    def total(self):
        """Return the number of meetings."""
        return self.many(0, self.numbers)

    def many(self, place, left):
        """Return in how many ways the pairs from a place on leave nothing to anybody."""
        key = (place, left)
        if key not in self.counted:
            self.counted[key] = self.worked_out(place, left)
        return self.counted[key]

    def worked_out(self, place, left):
        """Return the same as many, by way of the next place."""
        if not self.can_be(place, left):
            return 0
        if place == len(self.pairs):
            return 1
        return sum([self.many(place + 1, after) for after in self.choices(place, left)])

    def can_be(self, place, left):
        """Tell whether nobody has more left than pairs from a place on, or less than none."""
        return all([number is None or 0 <= number <= most for number, most in zip(left, self.most[place])])

    def choices(self, place, left):
        """Return the list of what can be left behind the pair at a place: it taken, then left out if it may be."""
        taken = one_less(left, self.pairs[place])
        if self.pairs[place] in self.met:
            return [taken]
        return [taken, left]

    def going_on(self, place, left, chosen):
        """Generate, ascending, the meetings that begin with chosen pairs and go on with some from a place on."""
        # What is chosen comes ahead of all that begins with it, and a pair ahead of each later one.
        if place >= self.behind_met and not any(left):
            yield chosen
        for at in range(place, len(self.pairs)):
            pair = self.pairs[at]
            taken = one_less(left, pair)
            if self.many(at + 1, taken) > 0:
                behind = at + 1
                begun = chosen + (pair,)
                yield from self.going_on(behind, taken, begun)
            if pair in self.met:
                return

    def having(self):
        """Return the dict from each of the pairs, ascending, to the number of meetings that have it."""
        found = {}
        reached = {self.numbers: 1}
        for place, pair in enumerate(self.pairs):
            found[pair] = sum([
                ways * self.many(place + 1, one_less(left, pair))
                for left, ways in reached.items()
            ])
            reached = self.next_reached(place, reached)
        return found

    def next_reached(self, place, reached):
        """Return the dict from what can be left behind a place to the number of ways there, from that ahead of it."""
        behind = {}
        for left, ways in reached.items():
            for after in self.choices(place, left):
                if self.many(place + 1, after) > 0:
                    behind[after] = behind.get(after, 0) + ways
        return behind
