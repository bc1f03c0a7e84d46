"""Groups, excuses and right numbers against going through all of them; excuses with one thing wrong."""

import itertools
import unittest

from metnumbers.bars import bars_it
from metnumbers.errors import Mismatch, NoParty
from metnumbers.meetings import is_meeting, least_meeting
from metnumbers.wrongs import (
    excused, excuses, groups, is_excuse, least_excuse, right_numbers, shows_excuse,
)
from tests.cases import Case
from tests.odd_things import odd_things
from tests.plain import all_meetings, among, bars, changed, drawn_parties, slack_of, small_parties
from tests.plain_settling import (
    all_excuses, all_groups, in_order, is_excuse_tuple, numbers_right_for, without,
)

FOUR = ((1, 1, 1, 1), (), ())
WRONG = ((3, 1, 1, 0), (), ())
RIGHT = ((0,), ((1, 2),), [((), ((), (0,)))])
MIXED = ((3, None, 1, 0), (), ())
NO_PARTY = ((2, 1), ((1, 0),), ())


def list_of_groups(party):
    return list(groups(party))


class GroupsTest(Case):
    def test_by_hand(self):
        self.assertEqual(list(groups(((1, None, 2), (), ()))), [(), (0,), (2,), (0, 2)])
        self.assertEqual(list(groups(((None, None), (), ()))), [()])
        self.assertEqual(list(groups(((5,), (), ()))), [(), (0,)])
        found = list(groups(((0,) * 4, (), ())))
        self.assertEqual(found[5:11], [(0, 1), (0, 2), (0, 3), (1, 2), (1, 3), (2, 3)])

    def test_by_words(self):
        for party in drawn_parties(111, range(1, 9), 15):
            self.assertEqual(list(groups(party)), all_groups(party))
        self.assertEqual(len(list(groups(((3,) * 8, (), ())))), 256)

    def test_generates(self):
        first = list(itertools.islice(groups(((3,) * 8, (), ())), 3))
        self.assertEqual(first, [(), (0,), (1,)])


class ExcusedTest(Case):
    def test_by_words(self):
        for party in drawn_parties(112, (1, 2, 3, 4, 5), 25) + drawn_parties(113, (6,), 4):
            for group in all_groups(party):
                self.assertEqual(excused(party, group), without(party, group))
                right = bool(all_meetings(without(party, group)))
                self.assert_told(right, is_excuse, party, group)

    def test_no_group(self):
        wrong = [
            (1,), (0, 1), (4,), (0, 4), (-1,), (0, 0), (2, 0), (0, 3, 2), (0, True), (False,), (False, 2), (None,),
            [0], [], {}, {0: 1}, "0", "", 0, None, ((0,),), ((), ()), (0, "2"), ("0",),
        ]
        for thing in [*wrong, *odd_things()]:
            if thing != ():
                self.assert_refused(Mismatch, excused, MIXED, thing)
                self.assert_refused(Mismatch, is_excuse, MIXED, thing)
        for group in all_groups(MIXED):
            for thing in changed(group):
                if not among(thing, all_groups(MIXED)):
                    self.assert_refused(Mismatch, excused, MIXED, thing)
                    self.assert_refused(Mismatch, is_excuse, MIXED, thing)


class LeastExcuseTest(Case):
    def test_small_parties(self):
        for party in small_parties((0, 1, 2, None)):
            self.assert_least(party)

    def test_drawn_parties(self):
        sizes = []
        for party in drawn_parties(114, (1, 2, 3, 4, 5), 35) + drawn_parties(115, (6,), 6):
            sizes.append(self.assert_least(party))
        for numbers in [(9, 9, 9), (4, 0, 0, 0, 0), (4, 4, 4, 1, 0), (20,) * 5, (0, 0, 0, 1, 2)]:
            sizes.append(self.assert_least((numbers, (), ())))
        self.assertGreater(min(sizes.count(0), sizes.count(1), sizes.count(2)), 5)

    def test_a_party_with_a_meeting(self):
        for party in [FOUR, ((None,) * 8, (), ()), ((3,) * 8, (), ()), ((0,), (), ())]:
            self.assertEqual(least_excuse(party)[0], ())
            self.assertEqual(least_excuse(party)[2], [])
            self.assertEqual(excuses(party), [()])
            self.assert_told(True, shows_excuse, party, ((), least_meeting(party), []))
            self.assert_told(True, is_excuse, party, ())
        # There may be later excuses, but none has as few persons as the empty one.
        self.assert_told(True, is_excuse, FOUR, (0, 1))

    def test_all_told_wrongly(self):
        self.assertEqual(least_excuse(((9, 9, 9), (), ()))[0], (0, 1, 2))
        self.assertEqual(excuses(((9, 9, 9), (), ())), [(0, 1, 2)])
        self.assertEqual(excuses(((9, None, 0), (), ())), [(0,)])
        self.assertEqual(excuses(((0, 0), ((0, 1),), ())), [(0, 1)])

    def test_eight_persons(self):
        numbers = [
            (20,) * 8, (None,) * 8, (3,) * 8, (3,) * 7 + (4,), (7, 7) + (1,) * 6, (7, 6, 5, 4, 3, 2, 1, 0), (7,) * 7 + (0,),
            (7, 7, 7, 7, 0, 0, 0, 0), (7, 7, 1, 1, None, None, None, 0), (8,) + (None,) * 7, (7, 5, 5, 2, 2, 1, 1, 0),
        ]
        parties = [(told, (), ()) for told in numbers] + drawn_parties(116, (7, 8), 25)
        parties += [((2,) * 8, ((0, 1), (0, 2), (0, 3), (4, 5), (4, 6), (4, 7)), ())]
        for party in parties:
            with self.within():
                group, meeting, reasons = least_excuse(party)
            self.assertTrue(is_meeting(without(party, group), meeting))
            self.assertEqual([other for other, _ in reasons], all_groups(party)[:len(reasons)])
            for other, bar in reasons[::7]:
                self.assertLess(slack_of(without(party, other), bar), 0)
            with self.within():
                self.assertIs(shows_excuse(party, (group, meeting, reasons)), True)
            with self.within():
                found = excuses(party)
            self.assertEqual(found[0], group)
            as_few = [other for other in all_groups(party) if len(other) == len(group)]
            self.assertEqual(found, [other for other in as_few if least_meeting(without(party, other)) is not None])
            with self.within():
                self.assert_right_numbers(party, len(party[0]) - 1)

    def assert_right_numbers(self, party, person):
        for number in range(21):
            told = (party[0][:person] + (number,) + party[0][person + 1:], *party[1:])
            self.assertIs(number in right_numbers(party, person), least_meeting(told) is not None)

    def assert_least(self, party):
        found = least_excuse(party)
        right = all_excuses(party)
        self.assertEqual(found[0], right[0], party)
        self.assertTrue(is_excuse_tuple(party, found), (party, found))
        for group, bar in found[2]:
            self.assertTrue(bars(without(party, group), bar))
            self.assertTrue(bars_it(excused(party, group), bar))
        self.assertIs(shows_excuse(party, found), True)
        self.assertEqual(excuses(party), [group for group in right if len(group) == len(right[0])])
        return len(found[0])


class ShowsExcuseTest(Case):
    def test_one_thing_wrong(self):
        party = ((3, 3, 0, 1), (), ())
        found = least_excuse(party)
        group, meeting, reasons = found
        self.assertGreater(len(reasons), 2)
        self.assert_told(True, shows_excuse, party, found)
        self.assert_told(True, is_excuse, party, all_excuses(party)[-1])
        wrong = {
            "a list": list(found),
            "a group as a list": (list(group), meeting, reasons),
            "a meeting as a list": (group, list(meeting), reasons),
            "reasons as a tuple": (group, meeting, tuple(reasons)),
            "a reason as a list": (group, meeting, [list(reasons[0])] + reasons[1:]),
            "the first reason is missing": (group, meeting, reasons[1:]),
            "the last reason is missing": (group, meeting, reasons[:-1]),
            "a reason doubled": (group, meeting, reasons + reasons[-1:]),
            "a reason doubled in the place of another": (group, meeting, reasons[:-1] + reasons[:1]),
            "out of order": (group, meeting, [reasons[1], reasons[0]] + reasons[2:]),
            "a bar that bars nothing": (group, meeting, [((), ((0, 1, 2, 3), ()))] + reasons[1:]),
            "no bar": (group, meeting, [((), None)] + reasons[1:]),
            "a bar with True": (group, meeting, [((), ((), (False, True)))] + reasons[1:]),
            "another group": (all_excuses(party)[-1], least_meeting(without(party, all_excuses(party)[-1])), reasons),
            "no meeting": (group, None, reasons),
            "another meeting": (group, (), reasons),
            "two things": (group, meeting),
            "four things": found + (None,),
            "nothing": (),
        }
        for why, thing in wrong.items():
            with self.subTest(why=why):
                self.assert_told(False, shows_excuse, party, thing)
                self.assertIs(is_excuse_tuple(party, thing), False)

    def test_other_meetings_and_bars(self):
        self.assert_told(True, shows_excuse, WRONG, RIGHT)
        self.assert_told(False, shows_excuse, WRONG, ((3,), RIGHT[1], RIGHT[2] * 4))
        for bar in [((), ()), ((3,), (0,)), ((), (0, 3)), ((0,), ()), ((), (1,))]:
            thing = ((0,), ((1, 2),), [((), bar)])
            self.assert_told(is_excuse_tuple(WRONG, thing), shows_excuse, WRONG, thing)
        # A later excuse is not the first one, whatever the reasons are.
        later = ((3,), ((0, 1), (0, 2), (0, 3)), [(group, ((), ())) for group in all_groups(WRONG)[:4]])
        self.assert_told(False, shows_excuse, WRONG, later)

    def test_changed_excuses(self):
        for party in [WRONG, MIXED, ((9, 9), (), ()), FOUR, ((0, 0, None), ((0, 1),), ())]:
            found = least_excuse(party)
            for thing in changed(found):
                self.assert_told(is_excuse_tuple(party, thing), shows_excuse, party, thing)

    def test_objects_of_any_form(self):
        for thing in odd_things():
            self.assert_told(False, shows_excuse, WRONG, thing)
            self.assert_told(False, shows_excuse, WRONG, (thing, RIGHT[1], RIGHT[2]))
            self.assert_told(False, shows_excuse, WRONG, (RIGHT[0], thing, RIGHT[2]))
            self.assert_told(False, shows_excuse, WRONG, (RIGHT[0], RIGHT[1], thing))
            self.assert_told(False, shows_excuse, WRONG, (RIGHT[0], RIGHT[1], [thing]))
            reason = (thing, ((), (0,)))
            right = is_excuse_tuple(WRONG, (RIGHT[0], RIGHT[1], [reason]))
            self.assert_told(right, shows_excuse, WRONG, (RIGHT[0], RIGHT[1], [reason]))
            reason = ((), thing)
            right = is_excuse_tuple(WRONG, (RIGHT[0], RIGHT[1], [reason]))
            self.assert_told(right, shows_excuse, WRONG, (RIGHT[0], RIGHT[1], [reason]))


class RightNumbersTest(Case):
    def test_by_words(self):
        told, silent, nones = 0, 0, 0
        for party in small_parties((0, 1, 3, None)) + drawn_parties(117, (4, 5), 12):
            for person, number in enumerate(party[0]):
                right = numbers_right_for(party, person)
                self.assertEqual(right_numbers(party, person), right, (party, person))
                told += number is not None
                silent += number is None
                nones += not right
        self.assertGreater(min(told, silent, nones), 50)

    def test_by_hand(self):
        self.assertEqual(right_numbers(WRONG, 0), [0, 2])
        self.assertEqual(right_numbers(((None,) * 8, (), ()), 3), list(range(8)))
        self.assertEqual(right_numbers(((9, 0), (), ()), 1), [])
        self.assertEqual(right_numbers(((9,), (), ()), 0), [0])
        self.assertEqual(right_numbers(((None, None), ((0, 1),), ()), 0), [1])

    def test_no_person(self):
        for thing in [*odd_things(), 4, 5, -1, -4, "0", (0,), [0], None, True, False]:
            self.assert_refused(Mismatch, right_numbers, FOUR, thing)
        self.assert_refused(Mismatch, right_numbers, ((0,), (), ()), 1)


class RefusedTest(Case):
    def test_no_party(self):
        for thing in [*odd_things(), NO_PARTY, list(FOUR), [FOUR]]:
            for function in (list_of_groups, least_excuse, excuses):
                self.assert_refused(NoParty, function, thing)
            for function in (excused, is_excuse):
                self.assert_refused(NoParty, function, thing, ())
            self.assert_refused(NoParty, shows_excuse, thing, RIGHT)
            self.assert_refused(NoParty, right_numbers, thing, 0)

    def test_party_ahead_of_the_others(self):
        for thing in [None, [], (0, 0), 9]:
            for function in (excused, is_excuse, shows_excuse, right_numbers):
                self.assert_refused(NoParty, function, NO_PARTY, thing)

    def test_lists_are_new(self):
        self.assert_new_list(excuses, WRONG)
        first = right_numbers(WRONG, 0)
        first.append(9)
        self.assertEqual(right_numbers(WRONG, 0), [0, 2])
        _, _, reasons = least_excuse(WRONG)
        reasons.clear()
        self.assertEqual(len(least_excuse(WRONG)[2]), 1)

    def test_nothing_is_changed(self):
        party, thing = ((3, 1, 1, 0), (), ()), ((0,), ((1, 2),), [((), ((), (0,)))])
        self.assertIs(shows_excuse(party, thing), True)
        for function in (least_excuse, excuses, list_of_groups):
            function(party)
        right_numbers(party, 2)
        excused(party, (0, 1))
        self.assertEqual((party, thing), (WRONG, RIGHT))


if __name__ == "__main__":
    unittest.main()
