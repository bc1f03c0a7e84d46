"""What the functions of parties refuse, in which order, and that it stays as it was."""

import unittest

from metnumbers.errors import Mismatch, NoPair, NoParty
from metnumbers.parties import (
    free_pairs, join, look_alike, need_party, needs, persons, told, two_sided, with_apart, with_free, with_met,
)
from tests.cases import Case
from tests.odd_things import odd_things

PARTY = ((2, 1, 1, None), ((0, 1),), ((0, 3),))
NO_PARTY = ((2, 1), ((1, 0),), ())
OF_A_PARTY = [need_party, persons, free_pairs, needs, look_alike]
OF_A_PAIR = [with_met, with_apart, with_free]
NO_PAIRS = [
    (1, 0), (0, 0), (3, 3), (0, 4), (4, 5), (-1, 0), (-2, -1), (0, True), (False, 1), (False, True),
    [0, 1], [0, 2], (0,), (0, 1, 2), ((0, 1),), "01", {0: 1}, 1, None,
]


class RefusedTest(Case):
    def test_no_party(self):
        for thing in [*odd_things(), NO_PARTY, [*PARTY], list(PARTY[:2]), PARTY[0], PARTY + ((),)]:
            for function in OF_A_PARTY:
                self.assert_refused(NoParty, function, thing)
            for function in OF_A_PAIR:
                self.assert_refused(NoParty, function, thing, (0, 1))
            self.assert_refused(NoParty, told, thing, 0, 1)
            self.assert_refused(NoParty, join, thing, PARTY)
            self.assert_refused(NoParty, join, PARTY, thing)
            self.assert_refused(NoParty, join, thing, thing)

    def test_no_pair(self):
        for thing in [*odd_things(), *NO_PAIRS]:
            for function in OF_A_PAIR:
                self.assert_refused(NoPair, function, PARTY, thing)

    def test_no_pair_of_one_person(self):
        for function in OF_A_PAIR:
            self.assert_refused(NoPair, function, ((1,), (), ()), (0, 1))

    def test_pair_is_not_free(self):
        for pair in [(0, 1), (0, 3)]:
            self.assert_refused(Mismatch, with_met, PARTY, pair)
            self.assert_refused(Mismatch, with_apart, PARTY, pair)

    def test_pair_is_free(self):
        for pair in [(0, 2), (1, 2), (1, 3), (2, 3)]:
            self.assert_refused(Mismatch, with_free, PARTY, pair)

    def test_no_person(self):
        for thing in [*odd_things(), 4, 5, -1, -4, "0", (0,), [0], None, True, False]:
            self.assert_refused(Mismatch, told, PARTY, thing, 1)
        self.assert_refused(Mismatch, told, ((1,), (), ()), 1, 1)

    def test_no_number(self):
        for thing in odd_things():
            if thing is not None and thing != 8:
                self.assert_refused(NoParty, told, PARTY, 0, thing)
        for thing in [-1, 21, 10**12, True, False, "1", (1,), [1]]:
            for person in range(4):
                self.assert_refused(NoParty, told, PARTY, person, thing)

    def test_no_hosts_and_guests(self):
        for thing in odd_things():
            self.assert_refused(NoParty, two_sided, thing, (1,))
            self.assert_refused(NoParty, two_sided, (1,), thing)
            self.assert_refused(NoParty, two_sided, thing, thing)
        for thing in [[1], [1, 1], (-1,), (21,), (1, True), (False,), ("1",), ((1,),), ([1],), {0: 1}, 1, "1"]:
            self.assert_refused(NoParty, two_sided, thing, (1, 2))
            self.assert_refused(NoParty, two_sided, (1, 2), thing)
            self.assert_refused(NoParty, two_sided, thing, ())
            self.assert_refused(NoParty, two_sided, (), thing)

    def test_nobody(self):
        self.assert_refused(NoParty, two_sided, (), ())

    def test_nine_persons_on_two_sides(self):
        for hosts in range(10):
            self.assert_refused(NoParty, two_sided, (1,) * hosts, (1,) * (9 - hosts))
        self.assert_refused(NoParty, two_sided, (1,) * 50000, (1,) * 50000)

    def test_nine_persons_joined(self):
        for many in range(1, 9):
            self.assert_refused(NoParty, join, ((1,) * many, (), ()), ((1,) * (9 - many), (), ()))
        self.assert_refused(NoParty, join, ((1,) * 8, (), ()), ((1,) * 8, (), ()))


class OrderTest(Case):
    def test_party_ahead_of_pair(self):
        for function in OF_A_PAIR:
            for thing in NO_PAIRS:
                self.assert_refused(NoParty, function, NO_PARTY, thing)

    def test_pair_ahead_of_what_is_known(self):
        # The pair the wrong way round is known in both, and is no pair all the same.
        for function in OF_A_PAIR:
            self.assert_refused(NoPair, function, PARTY, (1, 0))
            self.assert_refused(NoPair, function, PARTY, (3, 0))

    def test_party_ahead_of_person_and_number(self):
        self.assert_refused(NoParty, told, NO_PARTY, 7, 1)
        self.assert_refused(NoParty, told, NO_PARTY, None, "1")

    def test_person_ahead_of_number(self):
        self.assert_refused(Mismatch, told, PARTY, 4, 21)
        self.assert_refused(Mismatch, told, PARTY, True, True)
        self.assert_refused(Mismatch, told, PARTY, [], [])


if __name__ == "__main__":
    unittest.main()
