"""The meetings of parties: against going through all lots of free pairs, and of great parties."""

import itertools
import unittest

from metnumbers.errors import NoPair, NoParty, TooMany
from metnumbers.meetings import how_many, how_many_with, is_meeting, least_meeting, meetings
from tests.cases import Case
from tests.odd_things import odd_things
from tests.plain import all_meetings, among, changed, drawn_parties, free, pairs_of, small_parties

FOUR = ((1, 1, 1, 1), (), ())
NO_PARTY = ((2, 1), ((1, 0),), ())
NOBODY_TOLD = ((None,) * 8, (), ())


def list_of_meetings(party):
    return list(meetings(party))


class SmallTest(Case):
    def test_small_parties(self):
        for party in small_parties((0, 1, 2, 3, None)):
            self.assert_as_told(party)

    def test_drawn_parties(self):
        parties = drawn_parties(31, (4, 5), 150) + drawn_parties(32, (6,), 25)
        self.assertGreater(len([party for party in parties if all_meetings(party)]), 80)
        self.assertGreater(len([party for party in parties if not all_meetings(party)]), 80)
        for party in parties:
            self.assert_as_told(party)

    def test_needs_below_zero(self):
        for party in [((0, 0), ((0, 1),), ()), ((0, None, 2), ((0, 1),), ()), ((1, 2, None), ((0, 1), (0, 2)), ())]:
            self.assert_as_told(party)
            self.assertIsNone(least_meeting(party))

    def test_numbers_above_all_pairs(self):
        for party in [((1,), (), ()), ((20,), (), ()), ((2, 1), (), ()), ((20, None), (), ()), ((3, 2, 2), (), ())]:
            self.assert_as_told(party)
            self.assertIsNone(least_meeting(party))

    def test_one_person(self):
        for party in [((0,), (), ()), ((None,), (), ())]:
            self.assertEqual(list(meetings(party)), [()])
            self.assertEqual(least_meeting(party), ())
            self.assertEqual(how_many(party), 1)
            self.assertIs(is_meeting(party, ()), True)
        self.assertEqual(list(meetings(((1,), (), ()))), [])
        self.assertIs(is_meeting(((1,), (), ()), ()), False)

    def assert_as_told(self, party):
        right = list(all_meetings(party))
        self.assertEqual(list(meetings(party)), right, party)
        self.assertEqual(least_meeting(party), right[0] if right else None, party)
        self.assertEqual(how_many(party), len(right), party)
        for pair in pairs_of(len(party[0])):
            having = [meeting for meeting in right if pair in meeting]
            self.assertEqual(how_many_with(party, pair), len(having), (party, pair))


class OrderTest(Case):
    def test_what_begins_another_one_comes_first(self):
        none_told = ((None, None, None), (), ())
        right = [
            (), ((0, 1),), ((0, 1), (0, 2)), ((0, 1), (0, 2), (1, 2)), ((0, 1), (1, 2)),
            ((0, 2),), ((0, 2), (1, 2)), ((1, 2),),
        ]
        self.assertEqual(list(meetings(none_told)), right)

    def test_pairs_of_met_stand_among_the_others(self):
        last_met = ((None, None, None), ((1, 2),), ())
        right = [((0, 1), (0, 2), (1, 2)), ((0, 1), (1, 2)), ((0, 2), (1, 2)), ((1, 2),)]
        self.assertEqual(list(meetings(last_met)), right)
        between = ((None, None, None), ((0, 2),), ())
        right = [((0, 1), (0, 2)), ((0, 1), (0, 2), (1, 2)), ((0, 2),), ((0, 2), (1, 2))]
        self.assertEqual(list(meetings(between)), right)

    def test_ascending(self):
        for party in drawn_parties(33, (4, 5, 6, 7), 20) + [FOUR]:
            found = list(itertools.islice(meetings(party), 2000))
            self.assertTrue(all(one < other for one, other in zip(found, found[1:])), party)


class GreatTest(Case):
    def test_six_who_told_nothing(self):
        party = ((None,) * 6, (), ())
        with self.within():
            found = list(meetings(party))
            self.assertEqual(len(found), 2 ** 15)
            self.assertTrue(all(one < other for one, other in zip(found, found[1:])))
            self.assertEqual(found[:3], [(), ((0, 1),), ((0, 1), (0, 2))])
            self.assertEqual(found[-1], ((4, 5),))
            self.assertEqual(how_many(party), 2 ** 15)
            self.assertEqual({how_many_with(party, pair) for pair in pairs_of(6)}, {2 ** 14})

    def test_how_many_of_six(self):
        # So many graphs of six places with 1, 2, 3, 4 lines at each are known.
        for number, right in [(0, 1), (1, 15), (2, 70), (3, 70), (4, 15), (5, 1)]:
            party = ((number,) * 6, (), ())
            self.assertEqual(how_many(party), right)
            self.assertEqual(how_many_with(party, (0, 1)), right * number // 5)
            self.assertEqual(how_many_with(party, (4, 5)), right * number // 5)

    def test_seven_are_too_many(self):
        for many in (7, 8):
            for numbers in [(None,) * many, (0,) * many, (2,) * many, (20,) * many]:
                party = (numbers, (), ())
                self.assertEqual(self.assert_refused(TooMany, how_many, party).limit, 6)
                self.assertEqual(self.assert_refused(TooMany, how_many_with, party, (0, 1)).limit, 6)

    def test_eight_who_told_nothing(self):
        with self.within():
            self.assertEqual(least_meeting(NOBODY_TOLD), ())
            first = list(itertools.islice(meetings(NOBODY_TOLD), 28))
        self.assertEqual(first, [tuple(pairs_of(8)[:k]) for k in range(28)])

    def test_eight_with_very_many_meetings(self):
        with self.within():
            party = ((3,) * 8, (), ())
            self.assertEqual(sum(1 for _ in meetings(party)), 19355)
            k4 = pairs_of(4)
            self.assertEqual(least_meeting(party), tuple(k4 + [(a + 4, b + 4) for a, b in k4]))
            for number in range(8):
                found = least_meeting(((number,) * 8, (), ()))
                self.assertTrue(is_meeting(((number,) * 8, (), ()), found))

    def test_eight_without_a_meeting(self):
        odd = [((3,) * 7 + (4,), (), ()), ((3, 3, 3, 4, 4, 4, 4, 4), (), ()), ((7, 7) + (1,) * 6, (), ())]
        two_odd_lots = tuple((a, b) for a in range(3) for b in range(3, 8))
        for party in odd + [((1,) * 8, (), two_odd_lots), ((2,) * 8, ((0, 1), (0, 2), (0, 3)), ())]:
            with self.within():
                self.assertIsNone(least_meeting(party))
                self.assertEqual(list(meetings(party)), [])

    def test_drawn_parties_of_eight(self):
        for party in drawn_parties(34, (7, 8), 40):
            with self.within():
                found = least_meeting(party)
                first = list(itertools.islice(meetings(party), 1))
            self.assertEqual(first, [] if found is None else [found])
            if found is not None:
                self.assertTrue(is_meeting(party, found))

    def test_least_of_eight_against_all(self):
        # With few free pairs all lots can be gone through for eight persons, too.
        for party in drawn_parties(35, (7, 8), 150):
            if len(free(party)) <= 13:
                right = list(all_meetings(party))
                self.assertEqual(list(meetings(party)), right, party)
                self.assertEqual(least_meeting(party), right[0] if right else None, party)


class IsMeetingTest(Case):
    def test_all_lots_of_pairs(self):
        for party in small_parties():
            pairs = pairs_of(len(party[0]))
            for kinds in itertools.product((False, True), repeat=len(pairs)):
                lot = tuple(itertools.compress(pairs, kinds))
                self.assertIs(is_meeting(party, lot), lot in all_meetings(party), (party, lot))

    def test_single_conditions_broken(self):
        party = ((1, 2, 1, None), ((0, 1),), ((2, 3),))
        self.assert_told(True, is_meeting, party, ((0, 1), (1, 2)))
        wrong = {
            "a list": [(0, 1), (1, 2)],
            "a pair as a list": ((0, 1), [1, 2]),
            "a pair the wrong way round": ((0, 1), (2, 1)),
            "a pair twice": ((0, 1), (0, 1), (1, 2)),
            "another pair twice": ((0, 1), (1, 2), (1, 2)),
            "not ascending": ((1, 2), (0, 1)),
            "True in a pair": ((0, True), (1, 2)),
            "False in a pair": ((False, 1), (1, 2)),
            "a number in a string": (("0", "1"), (1, 2)),
            "a person who is none": ((0, 1), (1, 2), (3, 4)),
            "a person -1": ((-1, 3), (0, 1), (1, 2)),
            "one person twice": ((0, 1), (1, 2), (3, 3)),
            "a pair of three": ((0, 1), (1, 2, 3)),
            "a pair of met is not in it": ((0, 3), (1, 2), (1, 3)),
            "a pair of apart is in it": ((0, 1), (1, 3), (2, 3)),
            "a number that is missed": ((0, 1),),
            "a number that is passed": ((0, 1), (1, 2), (1, 3)),
            "a dict": {(0, 1): True, (1, 2): True},
            "a string": "0 1, 1 2",
            "a party": party,
        }
        for why, thing in wrong.items():
            with self.subTest(why=why):
                self.assert_told(False, is_meeting, party, thing)

    def test_numbers_of_who_told_nothing_are_free(self):
        for meeting in all_meetings(((None,) * 4, (), ())):
            self.assert_told(True, is_meeting, ((None,) * 4, (), ()), meeting)

    def test_changed_meetings(self):
        for party in [FOUR, ((None, None, 1), (), ()), ((2, 1, 1, None), ((0, 1),), ((0, 3),))]:
            for meeting in all_meetings(party):
                for thing in changed(meeting):
                    self.assert_told(among(thing, all_meetings(party)), is_meeting, party, thing)

    def test_objects_of_any_form(self):
        for thing in odd_things():
            self.assert_told(False, is_meeting, FOUR, thing)
            self.assert_told(False, is_meeting, NOBODY_TOLD, thing)
            self.assert_told(False, is_meeting, FOUR, (thing,))
            self.assert_told(False, is_meeting, FOUR, ((0, 1), thing))
            self.assert_told(False, is_meeting, FOUR, ((0, 1), (2, thing)))


class RefusedTest(Case):
    def test_no_party(self):
        for thing in [*odd_things(), NO_PARTY, list(FOUR), [FOUR]]:
            for function in (least_meeting, list_of_meetings, how_many):
                self.assert_refused(NoParty, function, thing)
            self.assert_refused(NoParty, is_meeting, thing, ())
            self.assert_refused(NoParty, how_many_with, thing, (0, 1))

    def test_no_pair(self):
        for thing in [*odd_things(), (1, 0), (0, 0), (0, 4), (-1, 0), [0, 1], (0, 1, 2), (0,), (), ((0, 1),)]:
            self.assert_refused(NoPair, how_many_with, FOUR, thing)
        self.assert_refused(NoPair, how_many_with, ((0,), (), ()), (0, 1))

    def test_party_ahead_of_the_others(self):
        self.assert_refused(NoParty, is_meeting, NO_PARTY, NO_PARTY)
        self.assert_refused(NoParty, how_many_with, NO_PARTY, (1, 0))
        self.assert_refused(NoParty, how_many, ((1,) * 9, (), ()))
        self.assert_refused(NoParty, how_many_with, ((1,) * 9, (), ()), (0, 1))

    def test_pair_ahead_of_too_many(self):
        for pair in [(1, 0), (0, 7), (0, True), None, [0, 1]]:
            self.assert_refused(NoPair, how_many_with, ((1,) * 7, (), ()), pair)

    def test_nothing_is_changed(self):
        party = ((2, 1, 1, None), ((0, 1),), ((0, 3),))
        kept = ((2, 1, 1, None), ((0, 1),), ((0, 3),))
        for function in (least_meeting, list_of_meetings, how_many):
            self.assertEqual(function(party), function(kept))
            self.assertEqual(party, kept)
        self.assertEqual(how_many_with(party, (0, 2)), how_many_with(kept, (0, 2)))
        self.assertEqual(party, kept)
        first = list(meetings(FOUR))
        first.clear()
        self.assertEqual(len(list(meetings(FOUR))), 3)


if __name__ == "__main__":
    unittest.main()
