"""Threes and chances against going through all meetings."""

import fractions
import itertools
import unittest

from metnumbers.bars import bars_it
from metnumbers.errors import NoFit, NoMeeting, NoParty, TooMany
from metnumbers.meetings import least_meeting
from metnumbers.threes import by_threes, chances, fewest_threes, most_threes, threes
from tests.cases import Case
from tests.odd_things import odd_things
from tests.plain import all_meetings, among, changed, drawn_parties, pairs_of, small_parties

FOUR = ((1, 1, 1, 1), (), ())
BARRED = ((1, 1, 1), ((0, 1),), ((0, 2),))
NO_PARTY = ((2, 1), ((1, 0),), ())
OF_ALL = [fewest_threes, most_threes, by_threes, chances]


def threes_of(party, meeting):
    """Return the threes of a meeting by the words of point 11."""
    found = itertools.combinations(range(len(party[0])), 3)
    return [three for three in found if all(pair in meeting for pair in itertools.combinations(three, 2))]


class ThreesTest(Case):
    def test_by_hand(self):
        nobody = ((None,) * 4, (), ())
        self.assertEqual(threes(nobody, tuple(pairs_of(4))), [(0, 1, 2), (0, 1, 3), (0, 2, 3), (1, 2, 3)])
        self.assertEqual(threes(nobody, ((0, 1), (0, 2), (1, 2), (2, 3))), [(0, 1, 2)])
        self.assertEqual(threes(nobody, ((0, 1), (0, 2), (0, 3))), [])
        self.assertEqual(threes(((0,), (), ()), ()), [])
        self.assertEqual(len(threes(((None,) * 8, (), ()), tuple(pairs_of(8)))), 56)

    def test_by_words(self):
        for party in drawn_parties(121, (1, 2, 3, 4, 5), 30):
            for meeting in all_meetings(party)[::5]:
                self.assertEqual(threes(party, meeting), threes_of(party, meeting))
        for party in drawn_parties(122, (7, 8), 30):
            meeting = least_meeting(party)
            if meeting is not None:
                self.assertEqual(threes(party, meeting), threes_of(party, meeting))


class AllMeetingsTest(Case):
    def test_small_parties(self):
        for party in small_parties((0, 1, 2, None)):
            self.assert_as_told(party)

    def test_drawn_parties(self):
        for party in drawn_parties(123, (4, 5), 80) + drawn_parties(124, (6,), 12):
            self.assert_as_told(party)

    def test_by_hand(self):
        party = ((2, 2, 2, 1, 1), (), ())
        self.assertEqual(list(by_threes(party).items()), [(0, 6), (1, 1)])
        self.assertEqual(by_threes(((2, 2, 2), (), ())), {1: 1})
        self.assertEqual(by_threes(((None,) * 3, (), ())), {0: 7, 1: 1})
        # Of the numbers of threes, some between the least and the greatest may be missing.
        self.assertEqual(list(by_threes(((3,) * 6, (), ())).items()), [(0, 10), (2, 60)])
        self.assertEqual(list(by_threes(((None,) * 4, (), ()))), [0, 1, 2, 4])

    def test_chances_of_nought_and_one(self):
        party = ((None,) * 3, ((0, 1),), ((0, 2),))
        self.assertEqual(list(chances(party).items()), [((0, 1), (1, 1)), ((0, 2), (0, 1)), ((1, 2), (1, 2))])
        self.assertEqual(chances(((0, 0), (), ())), {(0, 1): (0, 1)})
        self.assertEqual(chances(((5, 1, 1, 1, 1, 1), (), ()))[(1, 2)], (0, 1))
        self.assertEqual(chances(((0,), (), ())), {})

    def test_six_persons(self):
        party = ((None,) * 6, (), ())
        for function in OF_ALL:
            with self.within():
                function(party)
        self.assertEqual(sum(by_threes(party).values()), 2 ** 15)
        self.assertEqual(most_threes(party), (20, tuple(pairs_of(6))))
        self.assertEqual(fewest_threes(party), (0, ()))
        self.assertEqual(set(chances(party).values()), {(1, 2)})

    def assert_as_told(self, party):
        right = all_meetings(party)
        if not right:
            for function in OF_ALL:
                self.assertTrue(bars_it(party, self.assert_refused(NoMeeting, function, party).bar))
            return
        numbers = [len(threes_of(party, meeting)) for meeting in right]
        self.assertEqual(fewest_threes(party), (min(numbers), right[numbers.index(min(numbers))]))
        self.assertEqual(most_threes(party), (max(numbers), right[numbers.index(max(numbers))]))
        self.assertEqual(list(by_threes(party).items()), [(k, numbers.count(k)) for k in sorted(set(numbers))])
        found = chances(party)
        self.assertEqual(list(found), pairs_of(len(party[0])))
        for pair, told in found.items():
            chance = fractions.Fraction(sum(pair in meeting for meeting in right), len(right))
            self.assertEqual(told, (chance.numerator, chance.denominator), (party, pair))


class RefusedTest(Case):
    def test_no_party(self):
        for thing in [*odd_things(), NO_PARTY, list(FOUR), [FOUR]]:
            for function in OF_ALL:
                self.assert_refused(NoParty, function, thing)
            self.assert_refused(NoParty, threes, thing, ())

    def test_no_meeting_of_the_party(self):
        for thing in [*odd_things(), *changed(((0, 1), (2, 3))), (), list(((0, 1), (2, 3)))]:
            if not among(thing, all_meetings(FOUR)):
                self.assert_refused(NoFit, threes, FOUR, thing)
        self.assert_refused(NoParty, threes, NO_PARTY, None)

    def test_too_many_ahead_of_no_meeting(self):
        for many in (7, 8):
            for number in (None, 0, 1, 20):
                for function in OF_ALL:
                    self.assertEqual(self.assert_refused(TooMany, function, ((number,) * many, (), ())).limit, 6)
        for function in OF_ALL:
            self.assert_refused(NoParty, function, ((1,) * 9, (), ()))
            self.assertTrue(bars_it(BARRED, self.assert_refused(NoMeeting, function, BARRED).bar))

    def test_answers_are_new(self):
        self.assert_new_list(threes, ((2, 2, 2), (), ()), ((0, 1), (0, 2), (1, 2)))
        for function in (by_threes, chances):
            first = function(FOUR)
            kept = dict(first)
            self.assertIs(type(first), dict)
            first.clear()
            self.assertEqual(function(FOUR), kept)

    def test_nothing_is_changed(self):
        party, meeting = ((2, 1, 1, None), ((0, 1),), ((0, 3),)), ((0, 1), (0, 2))
        for function in OF_ALL:
            function(party)
        threes(party, meeting)
        self.assertEqual((party, meeting), (((2, 1, 1, None), ((0, 1),), ((0, 3),)), ((0, 1), (0, 2))))


if __name__ == "__main__":
    unittest.main()
