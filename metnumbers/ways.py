"""The ways through the pairs of a party, taken or left out one after the other, that end in a meeting."""

from metnumbers.parties import all_pairs

# What is left to all persons is one integer: four bits for each, three for what is left, above them a guard bit.
# With all guards set, a subtraction that would leave less than nothing to somebody takes the guard away.
BITS = 4
LEFT_OF_ONE = 7
GUARDS = 0x88888888
ODD_BITS = 0x11111111


class Ways:
    """The ways through the pairs of a right party that are not known to be apart, ascending.

    At a place all pairs ahead of it are decided. What is left tells of each person who told a number how many of the
    pairs from there on have to be taken. Many ways lead to the same place with the same left, so what follows there is
    worked out only once.
    """

    def __init__(self, party):
        numbers, met, apart = party
        barred = set(apart)
        fixed = set(met)
        units = [0 if number is None else 1 << BITS * person for person, number in enumerate(numbers)]
        self.pairs = [pair for pair in all_pairs(len(numbers)) if pair not in barred]
        self.fixed = [pair in fixed for pair in self.pairs]
        self.steps = [units[one] + units[other] for one, other in self.pairs]
        self.room = self.rooms()
        most = [self.room[0] >> BITS * person & LEFT_OF_ONE for person in range(len(numbers))]
        self.possible = all([number is None or number <= most[person] for person, number in enumerate(numbers)])
        self.start = sum([number << BITS * person for person, number in enumerate(numbers) if number is not None])
        self.behind_met = self.pairs.index(met[-1]) + 1 if met else 0
        self.only_told = self.behind_untold(numbers)
        self.known = {}
        self.counted = {}

    def rooms(self):
        """Return the list, for each place and the end, of how many pairs from there on each person is in."""
        found = [0]
        for step in reversed(list(self.steps)):
            found.append(found[-1] + step)
        found.reverse()
        return found

    def behind_untold(self, numbers):
        """Return the place from which on all persons of all pairs told a number."""
        place = len(self.pairs)
        while place > 0 and None not in [numbers[person] for person in self.pairs[place - 1]]:
            place -= 1
        return place

    def has_any(self):
        """Tell whether there is a meeting."""
        return self.possible and self.can(0, self.start)

    def can(self, place, left):
        """Tell whether the pairs from a place on can leave nothing to anybody."""
        if left == 0 and place >= self.behind_met:
            return True
        # Each pair takes one from two persons, so an odd sum stays odd.
        if place == self.only_told and (left & ODD_BITS) % 15 % 2 == 1:
            return False
        key = left * 32 + place
        found = self.known.get(key)
        if found is None:
            taken = (left | GUARDS) - self.steps[place]
            found = taken & GUARDS == GUARDS and self.can(place + 1, taken ^ GUARDS)
            found = found or self.can_leave(place, left) and self.can(place + 1, left)
            self.known[key] = found
        return found

    def can_leave(self, place, left):
        """Tell whether the pair at a place can be left out, so that the later ones are enough for all."""
        return not self.fixed[place] and ((self.room[place + 1] | GUARDS) - left) & GUARDS == GUARDS

    def least(self):
        """Return the least meeting, or None if there is none."""
        if not self.has_any():
            return None
        left = self.start
        chosen = []
        place = 0
        # What is chosen comes ahead of all that begins with it, and a pair ahead of each later one.
        while left > 0 or place < self.behind_met:
            taken = (left | GUARDS) - self.steps[place]
            if taken & GUARDS == GUARDS and self.can(place + 1, taken ^ GUARDS):
                chosen.append(self.pairs[place])
                left = taken ^ GUARDS
            place += 1
        return tuple(chosen)

    def going_on(self, place, left, chosen):
        """Generate, ascending, the meetings that begin with chosen pairs and go on with some from a place on."""
        if left == 0 and place >= self.behind_met:
            yield chosen
        for at in range(place, len(self.pairs)):
            taken = (left | GUARDS) - self.steps[at]
            if taken & GUARDS == GUARDS and self.can(at + 1, taken ^ GUARDS):
                behind = at + 1
                rest = taken ^ GUARDS
                begun = chosen + (self.pairs[at],)
                yield from self.going_on(behind, rest, begun)
            if not self.can_leave(at, left):
                return

    def total(self):
        """Return the number of meetings."""
        return self.many(0, self.start) if self.possible else 0

    def many(self, place, left):
        """Return in how many ways the pairs from a place on leave nothing to anybody."""
        if place == len(self.pairs):
            return 1
        key = left * 32 + place
        if key not in self.counted:
            self.counted[key] = sum([self.many(place + 1, after) for after in self.choices(place, left)])
        return self.counted[key]

    def choices(self, place, left):
        """Return the list of what can be left behind the pair at a place: it taken, then left out, as far as may be."""
        taken = (left | GUARDS) - self.steps[place]
        found = [taken ^ GUARDS] if taken & GUARDS == GUARDS else []
        return found + [left] if self.can_leave(place, left) else found

    def having(self):
        """Return the dict from each of the pairs, ascending, to the number of meetings that have it."""
        found = {}
        reached = {self.start: 1} if self.possible else {}
        for place, pair in enumerate(self.pairs):
            found[pair] = 0
            behind = {}
            for left, ways in reached.items():
                taken = (left | GUARDS) - self.steps[place]
                if taken & GUARDS == GUARDS:
                    found[pair] += ways * self.many(place + 1, taken ^ GUARDS)
                for after in self.choices(place, left):
                    behind[after] = behind.get(after, 0) + ways
            reached = behind
        return found
