"""The scales on which the bars of a party are weighed (point 5)."""

from metnumbers.parties import free_pairs, needs
from metnumbers.parts import parts_of


def choices_of(weights):
    """Return the list of tuples (persons, sum of their weights), one for each choice from (person, weight)s."""
    found = [((), 0)]
    for person, weight in weights:
        found = found + [(chosen + (person,), total + weight) for chosen, total in found]
    return found


class Scales:
    """The needs and the free pairs of a party; the sides S and T of a bar are called first and second here."""

    def __init__(self, party):
        self.needs = needs(party)
        self.everyone = list(range(len(self.needs)))
        self.pairs = free_pairs(party)
        self.partners = [
            [one + other - person for one, other in self.pairs if person in (one, other)]
            for person in self.everyone
        ]

    def weight_in_first(self, person):
        """Return what a person of the first side adds to the slack."""
        if self.needs[person] is None:
            return len(self.partners[person])
        return self.needs[person]

    def weight_in_second(self, person, first):
        """Return what a person of the second side adds to the slack beside a first side."""
        free = len([partner for partner in self.partners[person] if partner not in first])
        if self.needs[person] is None:
            return free
        return free - self.needs[person]

    def is_odd(self, lot, second):
        """Tell whether a lot beside a second side is odd."""
        if any([self.needs[person] is None for person in lot]):
            return False
        across = [partner for person in lot for partner in self.partners[person] if partner in second]
        return (sum([self.needs[person] for person in lot]) + len(across)) % 2 == 1

    def odd_lots(self, first, second):
        """Return the ascending list of the odd lots beside both sides."""
        rest = [person for person in self.everyone if person not in first and person not in second]
        return [lot for lot in parts_of(rest, self.pairs) if self.is_odd(lot, second)]

    def slack(self, first, second):
        """Return the slack of a bar."""
        gain = sum([self.weight_in_first(person) for person in first])
        gain = gain + sum([self.weight_in_second(person, first) for person in second])
        return gain - len(self.odd_lots(first, second))

    def outside(self, first):
        """Return the list of tuples (person, what it adds in the second side), one for each not in a first side."""
        return [
            (person, self.weight_in_second(person, first))
            for person in self.everyone if person not in first
        ]

    def barring(self):
        """Return a bar with a slack below 0, or None if there is none."""
        for first, gain in choices_of([(person, self.weight_in_first(person)) for person in self.everyone]):
            for second, more in choices_of(self.outside(first)):
                # There are at most as many lots as persons beside both sides; to find the lots is the longer work.
                lots = len(self.everyone) - len(first) - len(second)
                if gain + more < lots and gain + more < len(self.odd_lots(first, second)):
                    return first, second
        return None
