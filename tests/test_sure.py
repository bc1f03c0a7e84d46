"""The states of pairs against all meetings, and papers of each sort, right ones and ones with one thing wrong."""

import unittest

from metnumbers.bars import bar_of, bars_it
from metnumbers.errors import NoMeeting, NoPair, NoParty
from metnumbers.meetings import is_meeting, least_meeting
from metnumbers.sure import is_settled, only_meeting, paper_of, shows_state, state_of, states
from tests.cases import Case
from tests.odd_things import odd_things
from tests.plain import (
    all_bars, all_meetings, changed, drawn_parties, is_state_paper, pairs_of, put_in, small_parties, state,
)

FOUR = ((1, 1, 1, 1), (), ())
FACTS = ((2, 1, 1, None), ((0, 1),), ((0, 3),))
STAR = ((3, 1, None, 1), (), ())
BARRED = ((1, 1, 1), ((0, 1),), ((0, 2),))
NO_PARTY = ((2, 1), ((1, 0),), ())


class StatesTest(Case):
    def test_small_parties(self):
        for party in small_parties((0, 1, 2, 3, None)):
            self.assert_as_told(party)

    def test_drawn_parties(self):
        parties = drawn_parties(51, (4, 5), 120) + drawn_parties(52, (6,), 25)
        for party in parties:
            self.assert_as_told(party)
        found = [state(party, pair) for party in parties if all_meetings(party) for pair in pairs_of(len(party[0]))]
        self.assertGreater(min(found.count("met"), found.count("apart"), found.count("open")), 100)

    def test_pairs_of_met_and_apart(self):
        party = ((None,) * 4, ((0, 1), (2, 3)), ((0, 2),))
        right = {(0, 1): "met", (0, 2): "apart", (0, 3): "open", (1, 2): "open", (1, 3): "open", (2, 3): "met"}
        self.assertEqual(states(party), right)

    def test_one_person(self):
        for party in [((0,), (), ()), ((None,), (), ())]:
            self.assertEqual(states(party), {})
            self.assertIs(is_settled(party), True)
            self.assertEqual(only_meeting(party), ())

    def test_one_meeting_more_none(self):
        one = [STAR, ((1, 1, 0), (), ()), ((2, 1, 1), (), ()), ((None, None), (), ((0, 1),)), ((7,) * 8, (), ())]
        for party in one:
            self.assertIs(is_settled(party), True)
            self.assertEqual(only_meeting(party), least_meeting(party))
        for party in [FOUR, ((None, None), (), ()), ((2, 2, 1, 1), (), ()), ((2,) * 8, (), ())]:
            self.assertIs(is_settled(party), False)
            self.assertIsNone(only_meeting(party))
        # The empty meeting, if it is the only one, is not None.
        self.assertEqual(only_meeting(((0, 0), (), ())), ())
        self.assertIs(is_settled(((0, 0), (), ())), True)
        for party in [BARRED, ((1,), (), ()), ((0, 0), ((0, 1),), ())]:
            self.assert_refused(NoMeeting, is_settled, party)
            self.assert_refused(NoMeeting, only_meeting, party)

    def assert_as_told(self, party):
        pairs, right = pairs_of(len(party[0])), all_meetings(party)
        if not right:
            for function in (states, is_settled, only_meeting):
                self.assert_barred(party, function, party)
            return
        found = states(party)
        self.assertEqual(list(found.items()), [(pair, state(party, pair)) for pair in pairs], party)
        for pair in pairs:
            self.assertEqual(state_of(party, pair), found[pair], (party, pair))
        self.assertIs(is_settled(party), len(right) == 1, party)
        self.assertEqual(only_meeting(party), right[0] if len(right) == 1 else None, party)

    def assert_barred(self, party, function, *things):
        self.assertTrue(bars_it(party, self.assert_refused(NoMeeting, function, *things).bar), party)


class PaperOfTest(Case):
    def test_small_parties(self):
        for party in small_parties():
            self.assert_papers(party)

    def test_drawn_parties(self):
        for party in drawn_parties(53, (4,), 150) + drawn_parties(54, (5,), 25):
            self.assert_papers(party)

    def test_known_pairs_need_nothing(self):
        party = ((None,) * 4, ((0, 1),), ((0, 2),))
        self.assertEqual(paper_of(party, (0, 1)), ("met", None))
        self.assertEqual(paper_of(party, (0, 2)), ("apart", None))
        self.assertEqual(paper_of(party, (0, 3))[0], "open")

    def assert_papers(self, party):
        for pair in pairs_of(len(party[0])):
            if all_meetings(party):
                paper = paper_of(party, pair)
                self.assertEqual(paper[0], state(party, pair))
                self.assertTrue(is_state_paper(party, pair, paper), (party, pair, paper))
                self.assertIs(shows_state(party, pair, paper), True)
            else:
                bar = self.assert_refused(NoMeeting, paper_of, party, pair).bar
                self.assertTrue(bars_it(party, bar), party)


class GreatTest(Case):
    def test_one_who_met_all_others(self):
        for numbers in [(7, 1, 1, 1, 1, 1, 1, 1), (7,) + (None,) * 6 + (1,), (1, 1, 1, 7, 1, 1, 1, 1)]:
            party, star = (numbers, (), ()), numbers.index(7)
            with self.within():
                found = states(party)
                for pair in pairs_of(8):
                    apart = star not in pair and 1 in [numbers[person] for person in pair]
                    right = "met" if star in pair else "apart" if apart else "open"
                    self.assertEqual(found[pair], right)
                    self.assert_paper(party, pair)
            self.assertEqual(only_meeting(party) is None, None in numbers)

    def test_ring_of_eight(self):
        ring = [(k, (k + 1) % 8) for k in range(8)]
        apart = tuple(pair for pair in pairs_of(8) if pair not in ring and pair[::-1] not in ring)
        with self.within():
            all_two = ((2,) * 8, (), apart)
            self.assertEqual(set(states(all_two).values()), {"met", "apart"})
            self.assertEqual(len(only_meeting(all_two)), 8)
            all_one = ((1,) * 8, (), apart)
            self.assertEqual([states(all_one)[pair] for pair in [(0, 1), (0, 7), (0, 2)]], ["open", "open", "apart"])
            self.assertIs(is_settled(all_one), False)
            fixed = ((1,) * 8, ((3, 4),), apart)
            self.assertEqual(only_meeting(fixed), ((0, 7), (1, 2), (3, 4), (5, 6)))
            mixed = ((2, 1, 1, 2, 2, 2, 2, 2), (), apart)
            self.assertEqual(only_meeting(mixed), ((0, 1), (0, 7), (2, 3), (3, 4), (4, 5), (5, 6), (6, 7)))
        for party in (all_two, all_one, fixed, mixed):
            for pair in pairs_of(8):
                with self.within():
                    self.assert_paper(party, pair)
        barred = ((2, 1, 2, 2, 2, 2, 2, 2), (), apart)
        self.assertTrue(bars_it(barred, self.assert_refused(NoMeeting, states, barred).bar))

    def test_very_many_meetings_or_none(self):
        for numbers in [(3,) * 8, (4,) * 8, (None,) * 8, (3, 3, 3, 3, 4, 4, 4, None), (3,) * 4 + (None,) * 4]:
            with self.within():
                party = (numbers, (), ())
                self.assertEqual(set(states(party).values()), {"open"})
                self.assertEqual(state_of(party, (6, 7)), "open")
                self.assertIs(is_settled(party), False)
                self.assertIsNone(only_meeting(party))
                self.assert_paper(party, (0, 1))
                self.assert_paper(party, (3, 7))
        for numbers in [(3,) * 7 + (4,), (7, 7) + (1,) * 6, (7, 7, 1, 1, None, None, None, 0), (8,) + (None,) * 7]:
            for function in (states, is_settled, only_meeting):
                with self.within():
                    party = (numbers, (), ())
                    self.assertTrue(bars_it(party, self.assert_refused(NoMeeting, function, party).bar))

    def test_drawn_parties_of_eight(self):
        for party in drawn_parties(55, (7, 8), 30):
            if least_meeting(party) is None:
                continue
            with self.within():
                found = states(party)
            self.assertEqual(list(found), pairs_of(len(party[0])))
            self.assertIs(is_settled(party), "open" not in found.values())
            for pair in list(found)[::5]:
                with self.within():
                    self.assertEqual(self.assert_paper(party, pair), found[pair])

    def assert_paper(self, party, pair):
        paper = paper_of(party, pair)
        self.assertIs(shows_state(party, pair, paper), True)
        if paper[0] == "open":
            self.assertTrue(is_meeting(party, paper[1]) and pair in paper[1])
            self.assertTrue(is_meeting(party, paper[2]) and pair not in paper[2])
        elif paper[1] is not None:
            other = put_in(party, [pair]) if paper[0] == "met" else put_in(party, [], [pair])
            self.assertTrue(bars_it(other, paper[1]))
        return paper[0]


class ShowsStateTest(Case):
    def test_all_papers_of_small_parties(self):
        for party in small_parties((0, 1, None))[::3]:
            meetings, bars = all_meetings(party), all_bars(len(party[0]))
            for pair in pairs_of(len(party[0])):
                papers = [(word, thing) for word in ("met", "apart") for thing in (None, *bars)]
                papers += [("open", one, other) for one in meetings for other in meetings]
                for paper in papers:
                    self.assert_judged(party, pair, paper)

    def test_other_sorts_of_bars_and_meetings(self):
        # (0, 2) is surely met, (1, 2) surely apart, (0, 1) known to be met, (0, 3) known to be apart.
        met = bar_of(put_in(FACTS, [(0, 2)]))
        self.assert_told(True, shows_state, FACTS, (0, 2), ("met", met))
        self.assert_told(True, shows_state, FACTS, (0, 1), ("met", None))
        self.assert_told(True, shows_state, FACTS, (0, 3), ("apart", None))
        for word, thing in [("met", None), ("apart", met), ("apart", None), ("open", met), ("open", None)]:
            self.assert_told(False, shows_state, FACTS, (0, 2), (word, thing))
        self.assert_told(False, shows_state, FACTS, (0, 1), ("apart", None))
        self.assert_told(False, shows_state, FACTS, (0, 1), ("met", met))
        self.assert_told(False, shows_state, FACTS, (0, 3), ("met", None))
        # A bar that does not bar the other party, though it is one.
        self.assert_told(False, shows_state, FACTS, (0, 2), ("met", ((0,), ())))

    def test_changed_papers(self):
        for party in [FOUR, FACTS, STAR, ((1, 1, 0), (), ()), ((2, 2, 1, 1), ((0, 1),), ((2, 3),))]:
            for pair in pairs_of(len(party[0])):
                paper = paper_of(party, pair)
                self.assert_judged(party, pair, paper)
                for thing in changed(paper):
                    self.assert_judged(party, pair, thing)

    def test_open_papers(self):
        one, other, third = all_meetings(FOUR)
        right = ("open", one, other)
        self.assert_told(True, shows_state, FOUR, (0, 1), right)
        self.assert_told(True, shows_state, FOUR, (0, 1), ("open", one, third))
        wrong = [
            ("open", other, one), ("open", one, one), ("open", other, other), ("open", one), ("open", one, None),
            ("open", None, other), ("open", one, other, third), ("open", one, ()), ("open", (), other), ("open",),
            ("open", [*one], other), ("open", one, [*other]), ["open", one, other], (one, other), (one, other, "open"),
            ("met", one, other), ("apart", one, other), ("Open", one, other), (None, one, other), (True, one, other),
            ("open", ((False, True), (2, 3)), other), ("open", ((0, True), (2, 3)), other),
            ("open", ((2, 3), (0, 1)), other), ("open", one, ((0, 2), (True, 3))), ("open", one + one, other),
        ]
        for thing in wrong:
            self.assert_told(False, shows_state, FOUR, (0, 1), thing)
        self.assert_told(False, shows_state, FOUR, (0, 3), right)
        self.assert_told(True, shows_state, FOUR, (0, 3), ("open", third, other))

    def test_party_without_a_meeting(self):
        # What is in neither has bars both ways; what is known needs nothing one way, and a bar of the party the other.
        self.assertEqual(all_meetings(BARRED), ())
        bar = bar_of(BARRED)
        self.assert_told(True, shows_state, BARRED, (0, 1), ("met", None))
        self.assert_told(True, shows_state, BARRED, (0, 1), ("apart", bar))
        self.assert_told(False, shows_state, BARRED, (0, 1), ("met", bar))
        self.assert_told(False, shows_state, BARRED, (0, 1), ("apart", None))
        self.assert_told(True, shows_state, BARRED, (0, 2), ("apart", None))
        self.assert_told(True, shows_state, BARRED, (0, 2), ("met", bar))
        self.assert_told(False, shows_state, BARRED, (0, 2), ("apart", bar))
        self.assert_told(False, shows_state, BARRED, (0, 2), ("met", None))
        apart, met = put_in(BARRED, [(1, 2)]), put_in(BARRED, [], [(1, 2)])
        self.assert_told(True, shows_state, BARRED, (1, 2), ("met", bar_of(apart)))
        self.assert_told(True, shows_state, BARRED, (1, 2), ("apart", bar_of(met)))
        self.assert_told(False, shows_state, BARRED, (1, 2), ("met", None))

    def test_objects_of_any_form(self):
        for thing in odd_things():
            for party, pair in [(FOUR, (0, 1)), (FACTS, (0, 1)), (FACTS, (0, 2)), (BARRED, (0, 2))]:
                self.assert_told(False, shows_state, party, pair, thing)
                self.assert_judged(party, pair, ("met", thing))
                self.assert_judged(party, pair, ("apart", thing))
                self.assert_told(False, shows_state, party, pair, (thing, None))
                self.assert_told(False, shows_state, party, pair, ("open", thing, thing))
                self.assert_told(False, shows_state, party, pair, ("open", ((0, 1), (2, 3)), thing))
                self.assert_told(False, shows_state, party, pair, ("met", None, thing))

    def assert_judged(self, party, pair, thing):
        self.assert_told(is_state_paper(party, pair, thing), shows_state, party, pair, thing)


class RefusedTest(Case):
    def test_no_party(self):
        for thing in [*odd_things(), NO_PARTY, list(FOUR), [FOUR]]:
            for function in (states, is_settled, only_meeting):
                self.assert_refused(NoParty, function, thing)
            for function in (state_of, paper_of):
                self.assert_refused(NoParty, function, thing, (0, 1))
            self.assert_refused(NoParty, shows_state, thing, (0, 1), ("met", None))

    def test_no_pair(self):
        for thing in [*odd_things(), (1, 0), (0, 0), (0, 4), (-1, 0), [0, 1], (0, 1, 2), (0,), (), ((0, 1),)]:
            for function in (state_of, paper_of):
                self.assert_refused(NoPair, function, FOUR, thing)
            self.assert_refused(NoPair, shows_state, FOUR, thing, ("met", None))
        for function in (state_of, paper_of):
            self.assert_refused(NoPair, function, ((0,), (), ()), (0, 1))

    def test_party_ahead_of_pair(self):
        for function in (state_of, paper_of):
            self.assert_refused(NoParty, function, NO_PARTY, (1, 0))
        self.assert_refused(NoParty, shows_state, NO_PARTY, (1, 0), None)

    def test_pair_ahead_of_no_meeting(self):
        for pair in [(1, 0), (0, 3), (0, True), [0, 1], None]:
            for function in (state_of, paper_of):
                self.assert_refused(NoPair, function, BARRED, pair)
            self.assert_refused(NoPair, shows_state, BARRED, pair, ("met", None))

    def test_no_meeting_has_a_bar(self):
        for party in [BARRED, ((2, 0), (), ()), ((0, 0), ((0, 1),), ()), ((3, 3, 1, 1), (), ()), ((1, 0), (), ())]:
            for function in (states, is_settled, only_meeting):
                self.assertTrue(bars_it(party, self.assert_refused(NoMeeting, function, party).bar))
            for function in (state_of, paper_of):
                self.assertTrue(bars_it(party, self.assert_refused(NoMeeting, function, party, (0, 1)).bar))

    def test_dicts_are_new(self):
        first = states(FOUR)
        kept = dict(first)
        self.assertIs(type(first), dict)
        first.clear()
        self.assertEqual(states(FOUR), kept)
        self.assertEqual(list(kept), pairs_of(4))

    def test_nothing_is_changed(self):
        party, pair = ((2, 1, 1, None), ((0, 1),), ((0, 3),)), (0, 2)
        for function in (state_of, paper_of):
            function(party, pair)
        for function in (states, is_settled, only_meeting):
            function(party)
        self.assertEqual((party, pair), (FACTS, (0, 2)))


if __name__ == "__main__":
    unittest.main()
