"""Partings, cuts and pieces by the words of point 7; being surely in one piece against all meetings, and papers."""

import unittest

from metnumbers.bars import bar_of, bars_it
from metnumbers.errors import Mismatch, NoFit, NoMeeting, NoParty, TooMany
from metnumbers.meetings import is_meeting, least_meeting
from metnumbers.pieces import (
    cut, joined_meeting, one_paper, parted_meeting, partings, pieces, shows_one, surely_one,
)
from tests.cases import Case
from tests.odd_things import odd_things
from tests.plain import (
    all_meetings, all_partings, among, changed, crossing, cut_by, drawn_parties, is_one_paper, pieces_of, small_parties,
)

FOUR = ((1, 1, 1, 1), (), ())
RING = ((2, 2, 2), (), ())
FACTS = ((2, 2, None, 1), ((0, 1),), ((0, 3),))
BARRED = ((1, 1, 1), ((0, 1),), ((0, 2),))
ALONE = ((0,), (), ())
NO_PARTY = ((2, 1), ((1, 0),), ())


class PartingsTest(Case):
    def test_by_hand(self):
        self.assertEqual(partings(ALONE), [])
        self.assertEqual(partings(((1, 1), (), ())), [(0,)])
        self.assertEqual(partings(RING), [(0,), (0, 1), (0, 2)])
        right = [(0,), (0, 1), (0, 1, 2), (0, 1, 3), (0, 2), (0, 2, 3), (0, 3)]
        self.assertEqual(partings(FOUR), right)

    def test_by_words(self):
        for many in range(1, 9):
            for party in [((None,) * many, (), ()), ((20,) * many, (), ())]:
                self.assertEqual(partings(party), all_partings(party))
                self.assertEqual(len(partings(party)), 2 ** (many - 1) - 1)

    def test_cut(self):
        apart = ((0, 2), (0, 3), (1, 2), (1, 3))
        self.assertEqual(cut(FOUR, (0, 1)), ((1, 1, 1, 1), (), apart))
        self.assertEqual(cut(FACTS, (0, 2)), ((2, 2, None, 1), ((0, 1),), ((0, 3), (1, 2), (2, 3))))
        self.assertEqual(cut(cut(FACTS, (0, 2)), (0, 2)), cut(FACTS, (0, 2)))

    def test_cut_by_words(self):
        for party in small_parties((0, None)) + drawn_parties(61, (4, 5, 6, 7, 8), 5):
            for parting in all_partings(party):
                self.assertEqual(cut(party, parting), cut_by(party, parting), (party, parting))

    def test_no_parting(self):
        wrong = [
            (), (1,), (1, 2), (0, 1, 2, 3), (1, 2, 3), (0, 4), (0, 1, 4), (-1, 0), (1, 0), (0, 2, 1), (0, 0), (0, 1, 1),
            (0, True), (False,), (False, 1), [0], [0, 1], {0: 1}, "0", 0, None, ((0,),), (0, None), (0, "1"), (0, (1,)),
        ]
        for thing in [*wrong, *odd_things()]:
            self.assert_refused(Mismatch, cut, FOUR, thing)
        for thing in [(0,), ()]:
            self.assert_refused(Mismatch, cut, ALONE, thing)
        for parting in all_partings(FOUR):
            for thing in changed(parting):
                if not among(thing, all_partings(FOUR)):
                    self.assert_refused(Mismatch, cut, FOUR, thing)


class PiecesTest(Case):
    def test_by_hand(self):
        self.assertEqual(pieces(ALONE, ()), [(0,)])
        self.assertEqual(pieces(FOUR, ((0, 3), (1, 2))), [(0, 3), (1, 2)])
        self.assertEqual(pieces(RING, ((0, 1), (0, 2), (1, 2))), [(0, 1, 2)])
        nobody = ((None,) * 8, (), ())
        self.assertEqual(pieces(nobody, ()), [(person,) for person in range(8)])
        self.assertEqual(pieces(nobody, ((0, 7), (1, 6), (2, 6), (3, 7), (6, 7))), [(0, 1, 2, 3, 6, 7), (4,), (5,)])
        self.assertEqual(pieces(nobody, ((2, 5), (3, 4), (3, 5))), [(0,), (1,), (2, 3, 4, 5), (6,), (7,)])

    def test_by_words(self):
        for party in small_parties((0, 1, 2, None)) + drawn_parties(62, (4,), 50) + drawn_parties(63, (5,), 15):
            for meeting in all_meetings(party):
                self.assertEqual(pieces(party, meeting), pieces_of(party, meeting), (party, meeting))

    def test_meetings_of_eight(self):
        for party in drawn_parties(64, (7, 8), 40):
            meeting = least_meeting(party)
            if meeting is not None:
                self.assertEqual(pieces(party, meeting), pieces_of(party, meeting), (party, meeting))

    def test_no_meeting(self):
        for thing in [*odd_things(), (), ((0, 1),), ((0, 1), (0, 2)), [(0, 1), (2, 3)], ((2, 3), (0, 1)), ((0, True),)]:
            self.assert_refused(NoFit, pieces, FOUR, thing)
        for thing in changed(((0, 1), (2, 3))):
            self.assert_refused(NoFit, pieces, FOUR, thing)
        self.assert_refused(NoFit, pieces, FACTS, ((0, 2), (1, 2)))
        self.assert_refused(NoFit, pieces, BARRED, ((0, 1),))


class OnePieceTest(Case):
    def test_small_parties(self):
        for party in small_parties((0, 1, 2, 3, None)):
            self.assert_as_told(party)

    def test_drawn_parties(self):
        parties = drawn_parties(65, (4,), 250) + drawn_parties(66, (5,), 60) + drawn_parties(67, (6,), 12)
        for party in parties:
            self.assert_as_told(party)
        sure = [parted_meeting(party) is None for party in parties if all_meetings(party)]
        self.assertGreater(min(sure.count(True), sure.count(False)), 60)

    def test_one_person(self):
        for party in [ALONE, ((None,), (), ())]:
            self.assertIs(surely_one(party), True)
            self.assertEqual(one_paper(party), [])
            self.assertIsNone(parted_meeting(party))
            self.assertEqual(joined_meeting(party), ())
            self.assert_told(True, shows_one, party, [])
        barred = ((1,), (), ())
        self.assertIsNone(parted_meeting(barred))
        self.assertIsNone(joined_meeting(barred))
        self.assert_told(True, shows_one, barred, [])
        for thing in [(), {}, None, [()], [((0,), ((), ()))]]:
            self.assert_told(False, shows_one, ALONE, thing)

    def test_a_pair_of_met_across(self):
        # The party cut there has meetings, but they are in one piece all the same.
        party = ((None, None), ((0, 1),), ())
        self.assertIs(surely_one(party), True)
        self.assertEqual(one_paper(party), [((0,), (0, 1))])
        self.assertIsNone(parted_meeting(party))
        self.assertEqual(joined_meeting(party), ((0, 1),))

    def assert_as_told(self, party):
        right = all_meetings(party)
        parted = [meeting for meeting in right if len(pieces_of(party, meeting)) > 1]
        joined = [meeting for meeting in right if meeting not in parted]
        self.assertEqual(parted_meeting(party), parted[0] if parted else None, party)
        self.assertEqual(joined_meeting(party), joined[0] if joined else None, party)
        if not right:
            for function in (surely_one, one_paper):
                self.assertTrue(bars_it(party, self.assert_refused(NoMeeting, function, party).bar))
            return
        self.assertIs(surely_one(party), not parted, party)
        paper = one_paper(party)
        if parted:
            self.assertIsNone(paper, party)
        else:
            self.assertTrue(is_one_paper(party, paper), (party, paper))
            self.assertIs(shows_one(party, paper), True, (party, paper))


class GreatTest(Case):
    def test_surely_one(self):
        ways = tuple((k, k + 1) for k in range(7))
        for party in [
            ((7, 1, 1, 1, 1, 1, 1, 1), (), ()), ((4,) * 8, (), ()), ((5,) * 8, (), ()), ((7,) * 8, (), ()),
            ((4,) * 7, (), ()), ((None,) * 7 + (7,), (), ()), ((None,) * 8, ways, ()), ((2, 6, 2, 2, 2, 3, 3, 6), (), ()),
        ]:
            with self.within():
                self.assertIs(surely_one(party), True, party)
            with self.within():
                paper = one_paper(party)
            self.assertEqual([parting for parting, _ in paper], all_partings(party))
            for parting, thing in paper:
                across = crossing(party[1], parting)
                self.assertTrue(thing in across if across else bars_it(cut_by(party, parting), thing), (party, parting))
            with self.within():
                self.assertIs(shows_one(party, paper), True)
            with self.within():
                self.assertIsNone(parted_meeting(party))

    def test_not_surely_one(self):
        two_fours = tuple((a, b) for part in ((0, 1, 2, 3), (4, 5, 6, 7)) for a in part for b in part if a < b)
        two_rings = ((0, 1), (0, 2), (1, 2), (3, 4), (3, 5), (4, 6), (5, 7), (6, 7))
        rights = {
            ((3,) * 8, (), ()): two_fours,
            ((2,) * 8, (), ()): two_rings,
            ((1,) * 8, (), ()): ((0, 1), (2, 3), (4, 5), (6, 7)),
            ((0,) * 8, (), ()): (),
            ((None,) * 8, (), ()): (),
            ((None,) * 7, (), ()): (),
            ((2,) * 7, (), ()): ((0, 1), (0, 2), (1, 2), (3, 4), (3, 5), (4, 6), (5, 6)),
            ((3, 3, 3, 3, None, None, None, None), (), ()): two_fours[:6],
            ((None,) * 8, ((0, 1),), ()): ((0, 1),),
        }
        for party, right in rights.items():
            with self.within():
                self.assertEqual(parted_meeting(party), right, party)
            with self.within():
                self.assertIs(surely_one(party), False)
            with self.within():
                self.assertIsNone(one_paper(party))

    def test_without_a_meeting(self):
        for numbers in [(3,) * 7 + (4,), (7, 7) + (1,) * 6, (7, 7, 1, 1, None, None, None, 0), (8,) + (None,) * 7]:
            party = (numbers, (), ())
            with self.within():
                self.assertIsNone(parted_meeting(party))
            for function in (surely_one, one_paper):
                with self.within():
                    self.assertTrue(bars_it(party, self.assert_refused(NoMeeting, function, party).bar))

    def test_drawn_parties(self):
        for party in drawn_parties(68, (7, 8), 40):
            with self.within():
                found = parted_meeting(party)
            if found is not None:
                self.assertTrue(is_meeting(party, found))
                self.assertGreater(len(pieces_of(party, found)), 1)
            if least_meeting(party) is not None:
                self.assertIs(surely_one(party), found is None)
                with self.within():
                    paper = one_paper(party)
                self.assertEqual(paper is None, found is not None)
                self.assertIs(shows_one(party, paper), found is None)

    def test_joined_meeting(self):
        with self.within():
            fan = ((0, 1), (0, 2), (0, 3), (0, 4), (0, 5))
            self.assertEqual(joined_meeting(((None,) * 6, (), ())), fan)
            self.assertIsNone(joined_meeting(((None,) * 5 + (0,), (), ())))
            self.assertIsNone(joined_meeting(((1,) * 6, (), ())))
            ring = ((0, 1), (0, 2), (1, 3), (2, 4), (3, 5), (4, 5))
            self.assertEqual(joined_meeting(((2,) * 6, (), ())), ring)
            self.assertIsNone(joined_meeting(((3,) * 5 + (2,), (), ())))

    def test_seven_are_too_many(self):
        for many in (7, 8):
            for number in (None, 0, 2, 20):
                error = self.assert_refused(TooMany, joined_meeting, ((number,) * many, (), ()))
                self.assertEqual(error.limit, 6)


class ShowsOneTest(Case):
    def test_by_hand(self):
        right = [((0,), ((), (0,))), ((0, 1), ((), (2,))), ((0, 2), ((), (1,)))]
        self.assert_told(True, shows_one, RING, right)
        wrong = {
            "a tuple": tuple(right),
            "one is missing": right[:2],
            "the first is missing": right[1:],
            "one is doubled": right + right[2:],
            "one is doubled in the place of another": [right[0], right[1], right[1]],
            "out of order": [right[1], right[0], right[2]],
            "backwards": right[::-1],
            "nothing": [],
            "a row as a list": [[*right[0]], right[1], right[2]],
            "a parting as a list": [([0], right[0][1]), right[1], right[2]],
            "a parting with False": [((False,), right[0][1]), right[1], right[2]],
            "a parting with True": [right[0], ((0, True), right[1][1]), right[2]],
            "a parting the wrong way round": [right[0], ((1, 0), right[1][1]), right[2]],
            "the persons on the other side": [((1, 2), right[0][1]), right[1], right[2]],
            "no bar": [((0,), None), right[1], right[2]],
            "a bar with True": [right[0], right[1], ((0, 2), ((), (True,)))],
            "a bar that bars nothing": [((0,), ((0,), ())), right[1], right[2]],
            "a pair that is free": [((0,), (0, 1)), right[1], right[2]],
            "three things in a row": [right[0] + (None,), right[1], right[2]],
            "one thing in a row": [right[0][:1], right[1], right[2]],
            "everyone as a parting": right + [((0, 1, 2), ((), ()))],
            "a dict": dict(right),
        }
        for why, thing in wrong.items():
            with self.subTest(why=why):
                self.assert_told(False, shows_one, RING, thing)

    def test_pairs_of_met(self):
        party = ((2, None, 2), ((0, 1),), ())
        right = [((0,), (0, 1)), ((0, 1), ((), (2,))), ((0, 2), (0, 1))]
        self.assert_told(True, shows_one, party, right)
        for k, wrong in [
            (0, (1, 0)), (0, [0, 1]), (0, (0, True)), (0, (False, 1)), (0, (0, 2)), (1, (0, 1)), (1, (1, 2)), (2, (1, 2)),
            (0, ((0, 1),)), (0, ()), (0, 0),
        ]:
            thing = list(right)
            thing[k] = (thing[k][0], wrong)
            self.assert_told(False, shows_one, party, thing)
        # A bar will do as well, where it bars the party cut there.
        thing = list(right)
        thing[0] = ((0,), ((), (0,)))
        self.assert_told(is_one_paper(party, thing), shows_one, party, thing)

    def test_changed_papers(self):
        for party in [
            ((1, 1), (), ()), RING, ((2, None, 2), ((0, 1),), ()), ((3, 1, 1, 1), (), ()),
            ((2, 2, None, 1), ((0, 1),), ((1, 2),)),
        ]:
            paper = one_paper(party)
            self.assertTrue(is_one_paper(party, paper), party)
            for thing in changed(paper):
                self.assert_told(is_one_paper(party, thing), shows_one, party, thing)

    def test_party_without_a_meeting(self):
        self.assertEqual(all_meetings(BARRED), ())
        paper = []
        for parting in all_partings(BARRED):
            across = crossing(BARRED[1], parting)
            paper.append((parting, across[0] if across else bar_of(cut_by(BARRED, parting))))
        self.assert_told(True, shows_one, BARRED, paper)
        self.assert_told(False, shows_one, BARRED, paper[:-1])

    def test_other_bars(self):
        # Which bar it is does not matter, if it bars the party cut there.
        for parting in all_partings(RING):
            for bar in [((), (0,)), ((), (1,)), ((), (2,)), ((), (0, 1)), ((1,), ()), ((0, 1, 2), ())]:
                thing = [(other, bar_of(cut_by(RING, other))) for other in all_partings(RING)]
                thing[all_partings(RING).index(parting)] = (parting, bar)
                self.assert_told(is_one_paper(RING, thing), shows_one, RING, thing)

    def test_objects_of_any_form(self):
        right = one_paper(RING)
        for thing in odd_things():
            self.assert_told(False, shows_one, RING, thing)
            for k in range(3):
                self.assert_told(False, shows_one, RING, right[:k] + [thing] + right[k + 1:])
                row = (thing, right[k][1])
                self.assert_told(False, shows_one, RING, right[:k] + [row] + right[k + 1:])
                row = (right[k][0], thing)
                paper = right[:k] + [row] + right[k + 1:]
                self.assert_told(is_one_paper(RING, paper), shows_one, RING, paper)


class RefusedTest(Case):
    def test_no_party(self):
        for thing in [*odd_things(), NO_PARTY, list(FOUR), [FOUR]]:
            for function in (partings, surely_one, one_paper, parted_meeting, joined_meeting):
                self.assert_refused(NoParty, function, thing)
            self.assert_refused(NoParty, cut, thing, (0,))
            self.assert_refused(NoParty, pieces, thing, ())
            self.assert_refused(NoParty, shows_one, thing, [])

    def test_party_ahead_of_the_others(self):
        for thing in [None, [], (0, 7)]:
            self.assert_refused(NoParty, cut, NO_PARTY, thing)
            self.assert_refused(NoParty, pieces, NO_PARTY, thing)
            self.assert_refused(NoParty, shows_one, NO_PARTY, thing)
        self.assert_refused(NoParty, joined_meeting, ((1,) * 9, (), ()))

    def test_no_meeting_has_a_bar(self):
        for party in [BARRED, ((2, 0), (), ()), ((0, 0), ((0, 1),), ()), ((3, 3, 1, 1), (), ()), ((1,), (), ())]:
            for function in (surely_one, one_paper):
                self.assertTrue(bars_it(party, self.assert_refused(NoMeeting, function, party).bar))
            self.assertIsNone(parted_meeting(party))
            self.assertIsNone(joined_meeting(party))

    def test_lists_are_new(self):
        for party in (FOUR, ALONE):
            self.assert_new_list(partings, party)
        for party in (RING, ALONE):
            self.assert_new_list(one_paper, party)
        self.assert_new_list(pieces, FOUR, ((0, 1), (2, 3)))

    def test_nothing_is_changed(self):
        party, parting, meeting = ((2, 2, None, 1), ((0, 1),), ((0, 3),)), (0, 2), ((0, 1), (0, 2), (1, 3))
        cut(party, parting)
        pieces(party, meeting)
        for function in (partings, surely_one, one_paper, parted_meeting, joined_meeting):
            function(party)
        self.assertEqual((party, parting, meeting), (FACTS, (0, 2), ((0, 1), (0, 2), (1, 3))))


if __name__ == "__main__":
    unittest.main()
