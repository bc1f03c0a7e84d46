"""Calls for parties of seven and eight persons that are asked very often: their answers, and how long they take."""

import unittest

from metnumbers.meetings import least_meeting
from metnumbers.pieces import joined_meeting, one_paper, parted_meeting, shows_one, surely_one
from metnumbers.sure import paper_of, shows_state, states
from tests.cases import Case
from tests.plain import all_partings, drawn_parties, pairs_of

THREES = ((3,) * 8, (), ())
THREES_MET = ((3,) * 8, ((0, 1),), ())
SIXES = ((6,) * 7, (), ())
TWO_FOURS = (
    (0, 1), (0, 2), (0, 3), (1, 2), (1, 3), (2, 3), (4, 5), (4, 6), (4, 7), (5, 6), (5, 7), (6, 7),
)
RIGHTS = [
    (states, THREES, {pair: "open" for pair in pairs_of(8)}),
    (surely_one, THREES_MET, False),
    (parted_meeting, THREES, TWO_FOURS),
    (one_paper, SIXES, [(parting, ((), (0,))) for parting in all_partings(SIXES)]),
    (least_meeting, THREES_MET, TWO_FOURS),
    (parted_meeting, THREES_MET, TWO_FOURS),
]


class SpeedTest(Case):
    def test_answers(self):
        for function, party, right in RIGHTS:
            self.assertEqual(function(party), right)

    def test_time(self):
        # All six once took a ninth of a second together; two seconds for fifty times are room for a slow machine.
        with self.within(2):
            for _ in range(50):
                for function, party, _ in RIGHTS:
                    function(party)

    def test_all_that_is_asked_of_many_parties(self):
        parties = drawn_parties(81, (1, 2, 3, 4, 5, 6), 30) + drawn_parties(82, (7, 8), 15)
        with self.within(10):
            for party in parties:
                self.ask_all(party)

    def ask_all(self, party):
        if least_meeting(party) is None:
            return
        found = states(party)
        for pair in found:
            paper = paper_of(party, pair)
            self.assertEqual(paper[0], found[pair])
            self.assertIs(shows_state(party, pair, paper), True)
        paper = one_paper(party)
        self.assertIs(surely_one(party), paper is not None)
        self.assertIs(surely_one(party), parted_meeting(party) is None)
        self.assertIs(shows_one(party, paper), paper is not None)
        if len(party[0]) <= 6 and surely_one(party):
            self.assertEqual(joined_meeting(party), least_meeting(party))


if __name__ == "__main__":
    unittest.main()
