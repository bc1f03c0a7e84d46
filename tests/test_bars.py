"""The bars of parties: their slack by the words of point 5, and that a party has a meeting or is barred."""

import random
import unittest

from metnumbers.bars import bar_of, bars_it, is_bar, odd_lots, rows, slack
from metnumbers.errors import Mismatch, NoBar, NoParty
from metnumbers.meetings import least_meeting
from tests.cases import Case
from tests.odd_things import odd_things
from tests.plain import all_bars, all_meetings, among, changed, drawn_parties, odd_lots_of, slack_of, small_parties

FOUR = ((1, 1, 1, 1), (), ())
FACTS = ((2, 1, 1, None), ((0, 1),), ((0, 3),))
NO_PARTY = ((2, 1), ((1, 0),), ())
# Objects of any form that are bars all the same.
BARS_AMONG_ODD_THINGS = [((), ()), ((0,), (1,))]


class IsBarTest(Case):
    def test_all_bars(self):
        for many in range(1, 6):
            party = ((None,) * many, (), ())
            self.assertEqual(len(all_bars(many)), 3 ** many)
            for bar in all_bars(many):
                self.assertIs(is_bar(party, bar), True)
        for bar in all_bars(8):
            self.assertIs(is_bar(((1,) * 8, (), ()), bar), True)

    def test_single_conditions_broken(self):
        self.assert_told(True, is_bar, FOUR, ((0, 1), (2,)))
        wrong = {
            "a list": [(0, 1), (2,)],
            "a first side as a list": ([0, 1], (2,)),
            "a second side as a list": ((0, 1), [2]),
            "a person in both": ((0, 1), (1, 2)),
            "a person in both, alone": ((2,), (2,)),
            "a person twice": ((0, 0), (2,)),
            "a person twice in the second side": ((0,), (2, 2)),
            "not ascending": ((1, 0), (2,)),
            "a second side that is not ascending": ((0,), (2, 1)),
            "a person who is none": ((0, 4), (2,)),
            "a person who is none in the second side": ((0,), (4,)),
            "a person -1": ((-1, 0), (2,)),
            "True as a person": ((0, True), (2,)),
            "False as a person": ((False, 1), (2,)),
            "True in the second side": ((0,), (True, 2)),
            "None as a person": ((None,), ()),
            "a string as a person": (("0",), ()),
            "a pair as a person": (((0, 1),), ()),
            "a side None": ((0,), None),
            "a side that is a person": (0, (2,)),
            "one side": ((0, 1),),
            "three sides": ((0,), (1,), (2,)),
            "no side": (),
            "a dict": {0: (0, 1), 1: (2,)},
            "a string": "0 1 / 2",
        }
        for why, thing in wrong.items():
            with self.subTest(why=why):
                self.assert_no_bar(FOUR, thing)

    def test_changed_bars(self):
        for bar in [((), ()), ((0,), ()), ((1,), (0, 2)), ((0, 1, 2, 3), ())]:
            for thing in changed(bar):
                self.assert_told(among(thing, all_bars(4)), is_bar, FOUR, thing)

    def test_objects_of_any_form(self):
        for thing in odd_things():
            if thing in BARS_AMONG_ODD_THINGS:
                self.assert_told(True, is_bar, FOUR, thing)
            else:
                self.assert_no_bar(FOUR, thing)
            self.assert_no_bar(FOUR, ((thing,), ()))
            self.assert_no_bar(FOUR, (thing, (0, 4)))
            self.assert_no_bar(FOUR, ((0, 4), thing))
            self.assert_no_bar(FOUR, ((), (0, thing)))

    def assert_no_bar(self, party, thing):
        self.assert_told(False, is_bar, party, thing)
        self.assert_told(False, bars_it, party, thing)
        self.assert_refused(NoBar, slack, party, thing)
        self.assert_refused(NoBar, odd_lots, party, thing)


class SlackTest(Case):
    def test_by_hand(self):
        # Each person told a number: a need in the first side, free pairs less the need in the second, a lot.
        self.assertEqual(slack(((2, 0), (), ()), ((), (0,))), -2)
        self.assertEqual(slack(FOUR, ((0,), ())), 0)
        self.assertEqual(slack(FOUR, ((0, 1), (2,))), 1 + 1 + (1 - 1) - 0)
        self.assertEqual(odd_lots(FOUR, ((0, 1), (2,))), [])
        self.assertEqual(odd_lots(FOUR, ((0,), ())), [(1, 2, 3)])
        # Who told nothing adds all free pairs in the first side, in the second those with persons not in the first.
        nobody = ((None,) * 4, (), ())
        self.assertEqual(slack(nobody, ((0,), ())), 3)
        self.assertEqual(slack(nobody, ((), (0,))), 3)
        self.assertEqual(slack(nobody, ((0, 1), (2,))), 3 + 3 + 1)
        self.assertEqual(slack(nobody, ((), ())), 0)
        self.assertEqual(odd_lots(((1, None), (), ()), ((), ())), [])

    def test_needs_below_zero(self):
        party = ((0, 0, 2), ((0, 1),), ())
        self.assertEqual(slack(party, ((0,), ())), -1 - 1)
        self.assertEqual(slack(party, ((0, 1), ())), -1 - 1)
        self.assertEqual(slack(party, ((), (0,))), 1 + 1)
        self.assertEqual(slack(party, ((2,), ())), 2 - 2)
        self.assertEqual(odd_lots(party, ((0,), ())), [(1, 2)])
        self.assertEqual(odd_lots(party, ((), (0,))), [])
        self.assertEqual(odd_lots(party, ((2,), ())), [(0,), (1,)])

    def test_small_parties(self):
        for party in small_parties((0, 1, 3, None)):
            self.assert_as_told(party)

    def test_drawn_parties(self):
        for party in drawn_parties(41, (4, 5), 25) + drawn_parties(42, (6,), 4):
            self.assert_as_told(party)

    def test_drawn_parties_of_eight(self):
        bars = all_bars(8)
        for k, party in enumerate(drawn_parties(43, (8,), 30)):
            for bar in bars[k::60]:
                self.assert_slack(party, bar)

    def assert_as_told(self, party):
        for bar in all_bars(len(party[0])):
            self.assert_slack(party, bar)

    def assert_slack(self, party, bar):
        right = slack_of(party, bar)
        self.assertEqual(slack(party, bar), right, (party, bar))
        self.assertEqual(odd_lots(party, bar), odd_lots_of(party, bar), (party, bar))
        self.assertIs(bars_it(party, bar), right < 0, (party, bar))


class BarOfTest(Case):
    def test_small_parties(self):
        for party in small_parties():
            self.assert_one_of_both(party)
            self.assertEqual(bar_of(party) is None, bool(all_meetings(party)))
            barring = [bar for bar in all_bars(len(party[0])) if bars_it(party, bar)]
            self.assertEqual(bool(barring), not all_meetings(party), party)

    def test_drawn_parties(self):
        parties = drawn_parties(44, (1, 2, 3, 4, 5, 6, 7, 8), 60)
        self.assertGreater(len([party for party in parties if least_meeting(party) is None]), 80)
        for party in parties:
            with self.within():
                self.assert_one_of_both(party)

    def test_drawn_numbers(self):
        # Numbers that are drawn one by one need bars of both sides more often than those near to a meeting.
        draw, barred = random.Random(49), 0
        for many in (4, 5, 6, 6, 7):
            for _ in range(250):
                party = (tuple(draw.choice([None, None, *range(many)]) for _ in range(many)), (), ())
                barred += self.assert_one_of_both(party)
        self.assertGreater(barred, 400)

    def test_never_both(self):
        for party in drawn_parties(45, (5,), 40) + drawn_parties(46, (7,), 2):
            if least_meeting(party) is not None:
                self.assertFalse(any(bars_it(party, bar) for bar in all_bars(len(party[0]))), party)

    def test_great_parties(self):
        two_lots = tuple((a, b) for a in range(3) for b in range(3, 8))
        parties = [((number,) * 8, (), ()) for number in (*range(9), 20, None)]
        parties += [((3,) * 7 + (4,), (), ()), ((3, 3, 3, 4, 4, 4, 4, 4), (), ()), ((7, 7) + (1,) * 6, (), ())]
        parties += [((1,) * 8, (), two_lots), ((None,) + (1,) * 7, (), two_lots), ((0,) * 8, ((6, 7),), ())]
        for party in parties:
            with self.within():
                self.assert_one_of_both(party)

    def test_both_sides_and_lots_can_be_needed(self):
        star = ((0, 1), (0, 2), (1, 2))
        needed = {
            "a lot": (((1, 1, 1), (), ()), ((), ())),
            "a first side": (((0, 0, 0), ((0, 1), (0, 2)), ()), ((0,), ())),
            "a second side": (((2, 0), (), ()), ((), (0,))),
            "both sides": (((3, 3, 1, 1), (), ()), ((2,), (0, 1))),
            "three lots around a person": (((1, 1, 1, 1), (), star), ((3,), ())),
        }
        for why, (party, bar) in needed.items():
            with self.subTest(why=why):
                self.assert_one_of_both(party)
                barring = [other for other in all_bars(len(party[0])) if bars_it(party, other)]
                self.assertIn(bar, barring)
                self.assertEqual(min(len(first + second) for first, second in barring), len(bar[0] + bar[1]))

    def assert_one_of_both(self, party):
        meeting, bar = least_meeting(party), bar_of(party)
        self.assertNotEqual(meeting is None, bar is None, party)
        if bar is not None:
            self.assertTrue(is_bar(party, bar), party)
            self.assertTrue(bars_it(party, bar), party)
            self.assertLess(slack_of(party, bar), 0, party)
        return bar is not None


class RowsTest(Case):
    def test_by_hand(self):
        self.assertEqual(rows(((3, 1, 1, 0), (), ())), [(1, 3, 2), (2, 4, 3), (3, 5, 6), (4, 5, 12)])
        self.assertEqual(rows(((0, 1, 1, 3), (), ())), rows(((3, 1, 1, 0), (), ())))
        self.assertEqual(rows(((5,), (), ())), [(1, 5, 0)])
        self.assertEqual(rows(((0, 0), (), ())), [(1, 0, 0), (2, 0, 2)])
        self.assertEqual(rows(((20, 20, 2), (), ())), [(1, 20, 2), (2, 40, 4), (3, 42, 6)])

    def test_by_words(self):
        for numbers in [party[0] for party in drawn_parties(47, range(1, 9), 20)]:
            if None in numbers:
                continue
            greatest = sorted(numbers)[::-1]
            right = []
            for k in range(1, len(numbers) + 1):
                others = sum(number if number < k else k for number in greatest[k:])
                right.append((k, sum(greatest[:k]), k * (k - 1) + others))
            self.assertEqual(rows((numbers, (), ())), right)

    def test_a_meeting_by_rows(self):
        for party in drawn_parties(48, range(1, 9), 40):
            if None not in party[0]:
                free_party = (party[0], (), ())
                holds = sum(party[0]) % 2 == 0 and all(left <= right for _, left, right in rows(free_party))
                self.assertEqual(holds, least_meeting(free_party) is not None, free_party)

    def test_refused(self):
        for party in [
            FACTS, ((1, None), (), ()), ((None,), (), ()), ((1, 1), ((0, 1),), ()), ((1, 1), (), ((0, 1),)),
            ((None, 0, 0), ((0, 1),), ((1, 2),)),
        ]:
            self.assert_refused(Mismatch, rows, party)


class RefusedTest(Case):
    def test_no_party(self):
        for thing in [*odd_things(), NO_PARTY, list(FOUR), [FOUR]]:
            self.assert_refused(NoParty, bar_of, thing)
            self.assert_refused(NoParty, rows, thing)
            for function in (is_bar, slack, odd_lots, bars_it):
                self.assert_refused(NoParty, function, thing, ((), ()))

    def test_party_ahead_of_bar(self):
        for function in (is_bar, slack, odd_lots, bars_it):
            self.assert_refused(NoParty, function, NO_PARTY, ((0,), (0,)))
            self.assert_refused(NoParty, function, NO_PARTY, None)

    def test_party_ahead_of_facts(self):
        self.assert_refused(NoParty, rows, ((None, 1), ((1, 0),), ()))

    def test_lists_are_new(self):
        self.assert_new_list(odd_lots, FACTS, ((), ()))
        self.assert_new_list(odd_lots, FOUR, ((0,), ()))
        self.assert_new_list(rows, FOUR)

    def test_nothing_is_changed(self):
        party, bar = ((2, 1, 1, None), ((0, 1),), ((0, 3),)), ((0,), (2,))
        for function in (slack, odd_lots, bars_it, is_bar):
            function(party, bar)
        bar_of(party)
        self.assertEqual((party, bar), (FACTS, ((0,), (2,))))


if __name__ == "__main__":
    unittest.main()
