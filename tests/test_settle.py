"""Facts that settle, and plans of questions, against going through all of them; ones with one thing wrong."""

import random
import unittest

from metnumbers.bars import bars_it
from metnumbers.errors import Mismatch, NoFit, NoMeeting, NoPair, NoParty, TooMany
from metnumbers.meetings import how_many, is_meeting, least_meeting
from metnumbers.settle import (
    best_question, fewest_questions, other_meeting, plan, settling, shows_plan, told_as,
)
from tests.cases import Case
from tests.odd_things import odd_things
from tests.plain import all_meetings, among, changed, choices, drawn_parties, free, pairs_of, small_parties
from tests.plain_settling import (
    best_of, depth_of, first_settling, is_plan_of, least_depth, others, told_facts,
)

FOUR = ((1, 1, 1, 1), (), ())
ONE, OTHER, THIRD = ((0, 1), (2, 3)), ((0, 2), (1, 3)), ((0, 3), (1, 2))
FACTS = ((None, 2, None, 1), ((0, 1),), ((0, 3),))
BARRED = ((1, 1, 1), ((0, 1),), ((0, 2),))
NO_PARTY = ((2, 1), ((1, 0),), ())
PLAN = ("ask", (0, 1), ("is", ONE), ("ask", (0, 2), ("is", OTHER), ("is", THIRD)))
NO_PAIRS = [(1, 0), (0, 0), (0, 4), (-1, 0), (0, True), (False, 1), [0, 1], (0, 1, 2), (0,), (), ((0, 1),), "01", 0]
NO_FACTS = [
    None, [], [(0, 1)], ((0, 1), (0, 1)), ((0, 2), (0, 1)), ((1, 0),), ((0, 4),), ((0, True),), (0, 1), ((0, 1), None),
    ([0, 1],), ((0, 1, 2),), {(0, 1): True}, "0 1", ((0, 0),), 0, (((0, 1),),),
]


def drawn_facts(draw, party):
    return tuple(pair for pair in free(party) if draw.random() < 0.3)


class ToldTest(Case):
    def test_small_parties(self):
        for party in small_parties((0, 1, 2, None))[::2]:
            for meeting in all_meetings(party)[:3]:
                for facts in choices(free(party)):
                    self.assert_told_facts(party, meeting, facts)

    def test_drawn_parties(self):
        draw = random.Random(101)
        for party in drawn_parties(101, (4, 5), 80):
            for meeting in all_meetings(party)[:3]:
                for _ in range(3):
                    self.assert_told_facts(party, meeting, drawn_facts(draw, party))

    def test_pairs_of_met_and_apart(self):
        # The pair is as it is in each meeting.
        meeting = all_meetings(FACTS)[0]
        for pair in [(0, 1), (0, 3)]:
            self.assertIsNone(other_meeting(FACTS, meeting, (), about=pair))
            self.assertEqual(settling(FACTS, meeting, about=pair), ())
            self.assert_refused(Mismatch, told_as, FACTS, meeting, (pair,))

    def test_by_hand(self):
        self.assertEqual(told_as(FOUR, ONE, ()), FOUR)
        self.assertEqual(told_as(FOUR, ONE, ((0, 1), (0, 2))), ((1, 1, 1, 1), ((0, 1),), ((0, 2),)))
        self.assertEqual(other_meeting(FOUR, OTHER, ()), ONE)
        self.assertEqual(other_meeting(FOUR, ONE, (), about=(0, 3)), THIRD)
        self.assertIsNone(other_meeting(FOUR, ONE, ((0, 1),)))
        self.assertIsNone(other_meeting(FOUR, ONE, ((0, 1),), about=(2, 3)))
        self.assertEqual(other_meeting(FOUR, ONE, (), about=None), OTHER)

    def test_eight_persons(self):
        draw = random.Random(102)
        parties = drawn_parties(102, (7, 8), 40) + [((k,) * 8, (), ()) for k in (1, 2, 3, 4, 7, None)]
        for party in parties:
            meeting = least_meeting(party)
            if meeting is None:
                continue
            facts = drawn_facts(draw, party)
            about = draw.choice([pair for pair in pairs_of(len(party[0])) if pair not in facts])
            with self.within():
                right = told_as(party, meeting, facts)
                found = other_meeting(party, meeting, facts)
                otherwise = other_meeting(party, meeting, facts, about=about)
            self.assertEqual(right, told_facts(party, meeting, facts))
            for other in (found, otherwise):
                self.assertTrue(other is None or is_meeting(right, other) and other != meeting)
            if otherwise is not None:
                self.assertLessEqual(found, otherwise)
                self.assertNotEqual(about in meeting, about in otherwise)

    def assert_told_facts(self, party, meeting, facts):
        self.assertEqual(told_as(party, meeting, facts), told_facts(party, meeting, facts))
        right = others(party, meeting, facts)
        self.assertEqual(other_meeting(party, meeting, facts), right[0] if right else None, (party, meeting, facts))
        for pair in pairs_of(len(party[0])):
            if pair in facts:
                self.assert_refused(Mismatch, other_meeting, party, meeting, facts, about=pair)
            else:
                right = others(party, meeting, facts, pair)
                found = other_meeting(party, meeting, facts, about=pair)
                self.assertEqual(found, right[0] if right else None, (party, meeting, facts, pair))


class SettlingTest(Case):
    def test_small_parties(self):
        nones = 0
        for party in small_parties((0, 1, 2, None))[::2]:
            for meeting in all_meetings(party):
                nones += self.assert_first(party, meeting)
        self.assertGreater(nones, 50)

    def test_drawn_parties(self):
        draw = random.Random(103)
        for party in drawn_parties(103, (4, 5), 50):
            if all_meetings(party):
                self.assert_first(party, draw.choice(all_meetings(party)))

    def test_no_facts_settle(self):
        party = ((None, None), (), ())
        self.assertIsNone(settling(party, (), about=(0, 1)))
        self.assertEqual(settling(party, ()), ((0, 1),))
        self.assertEqual(settling(((0,), (), ()), ()), ())
        self.assertEqual(settling(((1, 1), (), ()), ((0, 1),)), ())
        self.assertEqual(settling(((1, 1), (), ()), ((0, 1),), about=(0, 1)), ())

    def test_ten_and_eleven_free_pairs(self):
        for numbers in [(None,) * 5, (2,) * 5, (None, 2, 2, 2, None), (1, 1, 1, 1, None)]:
            party = (numbers, (), ())
            self.assertEqual(len(free(party)), 10)
            with self.within():
                self.assert_first(party, all_meetings(party)[-1])
        for numbers in [(None,) * 6, (2,) * 6, (0,) * 6]:
            pairs = pairs_of(6)
            ten, eleven = (numbers, (), tuple(pairs[10:])), (numbers, (), tuple(pairs[11:]))
            if all_meetings(ten):
                with self.within():
                    self.assertEqual(settling(ten, all_meetings(ten)[0]), first_settling(ten, all_meetings(ten)[0]))
            if all_meetings(eleven):
                meeting = all_meetings(eleven)[0]
                for about in (None, (0, 1), (4, 5)):
                    error = self.assert_refused(TooMany, settling, eleven, meeting, about=about)
                    self.assertEqual(error.limit, 10)
                self.assert_refused(NoPair, settling, eleven, meeting, about=(0, 6))
                self.assert_refused(NoFit, settling, eleven, None, about=(0, 6))

    def test_eight_persons(self):
        apart = tuple(pair for pair in pairs_of(8) if pair not in pairs_of(5))
        for numbers in [(2,) * 5 + (0,) * 3, (None,) * 8, (None, 1, 1, 2, 2, 0, None, 0)]:
            party = (numbers, (), apart)
            meeting = least_meeting(party)
            with self.within():
                self.assertEqual(settling(party, meeting), first_settling(party, meeting))
                self.assertEqual(settling(party, meeting, about=(1, 2)), first_settling(party, meeting, (1, 2)))

    def assert_first(self, party, meeting):
        nones = 0
        self.assertEqual(settling(party, meeting), first_settling(party, meeting), (party, meeting))
        for pair in pairs_of(len(party[0])):
            right = first_settling(party, meeting, pair)
            self.assertEqual(settling(party, meeting, about=pair), right, (party, meeting, pair))
            nones += right is None
        return nones


class PlanTest(Case):
    def test_small_parties(self):
        for party in small_parties((0, 1, 2, None)):
            self.assert_plans(party)

    def test_drawn_parties(self):
        depths = []
        for party in drawn_parties(104, (4, 5), 90) + drawn_parties(105, (6,), 15):
            depths.append(self.assert_plans(party))
        self.assertGreater(min(depths.count(depth) for depth in (0, 1, 2, 3, None)), 2)

    def test_one_meeting(self):
        for party in [((0,), (), ()), ((1, 1), (), ()), ((3, 1, None, 1), (), ())]:
            meeting = least_meeting(party)
            self.assertEqual(plan(party), ("is", meeting))
            self.assertEqual(fewest_questions(party), 0)
            self.assertIsNone(best_question(party))
            self.assert_told(True, shows_plan, party, ("is", meeting))

    def test_least_of_the_best_questions(self):
        self.assertEqual(best_question(FOUR), ((0, 1), 1, 2))
        self.assertEqual(best_question(((None,) * 6, (), ())), ((0, 1), 2 ** 14, 2 ** 14))
        self.assertEqual(best_question(((None, None, None), ((0, 1),), ((0, 2),))), ((1, 2), 1, 1))
        self.assertEqual(best_question(((2, 2, 2, 1, 1), (), ())), best_of(((2, 2, 2, 1, 1), (), ())))

    def test_twelve_and_thirteen_meetings(self):
        seen = set()
        for party in drawn_parties(106, (4, 5, 6), 400):
            if least_meeting(party) is None or how_many(party) not in (11, 12, 13, 14):
                continue
            seen.add(how_many(party))
            if how_many(party) <= 12:
                with self.within():
                    self.assert_plans(party)
            else:
                for function in (plan, fewest_questions):
                    self.assertEqual(self.assert_refused(TooMany, function, party).limit, 12)
                self.assertEqual(best_question(party), best_of(party))
        self.assertTrue({12, 13} <= seen, seen)
        many = ((None,) * 6, (), ())
        for function in (plan, fewest_questions):
            self.assertEqual(self.assert_refused(TooMany, function, many).limit, 12)

    def test_no_meeting(self):
        for party in [BARRED, ((1,), (), ()), ((3, 3, 1, 1), (), ()), ((None,) * 5 + (9,), (), ())]:
            for function in (best_question, plan, fewest_questions):
                self.assertTrue(bars_it(party, self.assert_refused(NoMeeting, function, party).bar))
            self.assert_told(False, shows_plan, party, ("is", ()))

    def test_seven_are_too_many(self):
        for many in (7, 8):
            for number in (None, 0, 2, 20):
                for function in (best_question, plan, fewest_questions):
                    error = self.assert_refused(TooMany, function, ((number,) * many, (), ()))
                    self.assertEqual(error.limit, 6)
        self.assert_refused(NoParty, plan, ((1,) * 9, (), ()))

    def assert_plans(self, party):
        right = all_meetings(party)
        if not right:
            for function in (best_question, plan, fewest_questions):
                self.assertTrue(bars_it(party, self.assert_refused(NoMeeting, function, party).bar))
            return None
        self.assertEqual(best_question(party), best_of(party))
        if len(right) > 12:
            self.assertEqual(self.assert_refused(TooMany, plan, party).limit, 12)
            return 13
        found, depth = plan(party), fewest_questions(party)
        self.assertTrue(is_plan_of(party, found), (party, found))
        self.assertIs(shows_plan(party, found), True)
        if len(right) <= 8:
            self.assertEqual(depth, least_depth(list(right)), party)
        self.assertEqual(depth_of(found), depth, party)
        return depth


class ShowsPlanTest(Case):
    def test_changed_plans(self):
        for party in [FOUR, ((None, None), (), ()), ((1, 1, None), (), ()), ((2, 2, 1, 1), (), ()), FACTS]:
            found = plan(party)
            self.assert_told(True, shows_plan, party, found)
            for thing in changed(found):
                self.assert_told(is_plan_of(party, thing), shows_plan, party, thing)

    def test_one_thing_wrong(self):
        self.assert_told(True, shows_plan, FOUR, PLAN)
        last = PLAN[3]
        wrong = {
            "yes and no the wrong way round": PLAN[:2] + (PLAN[3], PLAN[2]),
            "yes and no the wrong way round below": PLAN[:3] + (last[:2] + (last[3], last[2]),),
            "a pair that is not open": PLAN[:3] + (("ask", (0, 1), ("is", OTHER), ("is", THIRD)),),
            "a pair that is surely met": ("ask", (0, 1), ("ask", (2, 3), ("is", ONE), ("is", ONE)), last),
            "a pair that is surely apart": ("ask", (0, 1), ("ask", (0, 2), ("is", ONE), ("is", ONE)), last),
            "is too early": ("is", ONE),
            "is too early below": PLAN[:3] + (("is", OTHER),),
            "is with another meeting": PLAN[:2] + (("is", OTHER), last),
            "is with no meeting": PLAN[:2] + (("is", ((0, 1),)), last),
            "is with more": PLAN[:2] + (("is", ONE, None), last),
            "is alone": PLAN[:2] + (("is",), last),
            "ask without no": PLAN[:3],
            "ask with more": PLAN + (None,),
            "ask as a list": list(PLAN),
            "ask below as a list": PLAN[:3] + (list(last),),
            "a meeting as a list": PLAN[:2] + (("is", list(ONE)), last),
            "a pair as a list": ("ask", [0, 1]) + PLAN[2:],
            "a pair with True": ("ask", (0, True)) + PLAN[2:],
            "a pair the wrong way round": ("ask", (1, 0)) + PLAN[2:],
            "a pair of others": ("ask", (0, 4)) + PLAN[2:],
            "another word": ("Ask",) + PLAN[1:],
            "no word": (None,) + PLAN[1:],
            "the words changed": ("is",) + PLAN[1:],
            "a dict": {"ask": PLAN},
            "nothing": (),
        }
        for why, thing in wrong.items():
            with self.subTest(why=why):
                self.assert_told(False, shows_plan, FOUR, thing)
                self.assertIs(is_plan_of(FOUR, thing), False)

    def test_plans_that_are_not_the_least(self):
        party = ((None, None, None), (), ())
        deep = ("ask", (0, 1), *[
            ("ask", (0, 2), *[
                ("ask", (1, 2), *[("is", tuple(sorted(one + two + three))) for three in (((1, 2),), ())])
                for two in (((0, 2),), ())
            ]) for one in (((0, 1),), ())
        ])
        self.assert_told(True, shows_plan, party, deep)
        # All meetings but one are asked for one after the other.
        long, rights = ("is", THIRD), [ONE, OTHER]
        for meeting in reversed(rights):
            long = ("ask", meeting[0], ("is", meeting), long)
        self.assert_told(True, shows_plan, FOUR, long)

    def test_eight_persons(self):
        apart = tuple(pair for pair in pairs_of(8) if pair not in pairs_of(4))
        zeros = ((1, 1, 1, 1, 0, 0, 0, 0), (), ())
        self.assert_told(True, shows_plan, zeros, PLAN)
        self.assert_told(True, shows_plan, ((1, 1, 1, 1) + (None,) * 4, (), apart), PLAN)
        self.assert_told(False, shows_plan, ((1, 1, 1, 1) + (None,) * 4, (), apart[:-1]), PLAN)
        party = ((1,) * 8, (), ())
        with self.within():
            self.assertIs(shows_plan(party, plan_of_pairs(party, ())), True)
            self.assertIs(shows_plan(party, ("ask", (0, 1), ("is", ()), ("is", ()))), False)
            self.assertIs(shows_plan(((None,) * 8, (), ()), PLAN), False)

    def test_objects_of_any_form(self):
        for thing in odd_things():
            self.assert_told(False, shows_plan, FOUR, thing)
            self.assert_told(False, shows_plan, FOUR, ("is", thing))
            self.assert_told(False, shows_plan, FOUR, ("ask", thing) + PLAN[2:])
            self.assert_told(False, shows_plan, FOUR, ("ask", (0, 1), thing, PLAN[3]))
            self.assert_told(False, shows_plan, FOUR, PLAN[:3] + (thing,))
            self.assert_told(False, shows_plan, FOUR, (thing,) + PLAN[1:])
            # The empty tuple is the meeting of one person.
            self.assert_told(thing == (), shows_plan, ((0,), (), ()), ("is", thing))


def plan_of_pairs(party, met):
    """Return a plan of eight persons who each met one: with whom the first one without a partner met."""
    alone = [person for person in range(8) if not any(person in pair for pair in met)]
    if len(alone) == 2:
        return "is", tuple(sorted(met + ((alone[0], alone[1]),)))
    made = plan_of_pairs(party, met + ((alone[0], alone[-1]),))
    for other in reversed(alone[1:-1]):
        made = ("ask", (alone[0], other), plan_of_pairs(party, met + ((alone[0], other),)), made)
    return made


class RefusedTest(Case):
    def test_no_party(self):
        for thing in [*odd_things(), NO_PARTY, list(FOUR), [FOUR]]:
            for function in (best_question, plan, fewest_questions):
                self.assert_refused(NoParty, function, thing)
            for function in (told_as, other_meeting):
                self.assert_refused(NoParty, function, thing, ONE, ())
            self.assert_refused(NoParty, settling, thing, ONE)
            self.assert_refused(NoParty, shows_plan, thing, PLAN)

    def test_no_meeting(self):
        for thing in [*odd_things(), *changed(ONE), (), ((0, 1),), list(ONE)]:
            if not among(thing, all_meetings(FOUR)):
                for function in (told_as, other_meeting):
                    self.assert_refused(NoFit, function, FOUR, thing, ())
                self.assert_refused(NoFit, settling, FOUR, thing)
        self.assert_refused(NoFit, settling, BARRED, ((0, 1),))

    def test_no_pair(self):
        for thing in [*odd_things(), *NO_PAIRS]:
            if thing is not None:
                self.assert_refused(NoPair, other_meeting, FOUR, ONE, (), about=thing)
                self.assert_refused(NoPair, settling, FOUR, ONE, about=thing)
        self.assert_refused(NoPair, settling, ((0,), (), ()), (), about=(0, 1))

    def test_no_facts(self):
        for thing in [*odd_things(), *NO_FACTS]:
            if thing != ():
                for function in (told_as, other_meeting):
                    self.assert_refused(Mismatch, function, FOUR, ONE, thing)
                self.assert_refused(Mismatch, other_meeting, FOUR, ONE, thing, about=(2, 3))
        for facts in [((0, 1),), ((0, 2), (0, 3)), ((0, 3), (1, 2))]:
            self.assert_refused(Mismatch, told_as, FACTS, all_meetings(FACTS)[0], facts)
        for thing in changed(((0, 1), (1, 2))):
            if not among(thing, choices(pairs_of(4))):
                self.assert_refused(Mismatch, other_meeting, FOUR, ONE, thing)

    def test_about_is_one_of_the_facts(self):
        for pair in [(0, 1), (0, 2)]:
            self.assert_refused(Mismatch, other_meeting, FOUR, ONE, ((0, 1), (0, 2)), about=pair)

    def test_first_error(self):
        for thing in [None, [], (0, 7)]:
            for function in (told_as, other_meeting):
                self.assert_refused(NoParty, function, NO_PARTY, thing, thing)
                self.assert_refused(NoFit, function, FOUR, thing, thing)
            self.assert_refused(NoParty, settling, NO_PARTY, thing)
            self.assert_refused(NoParty, shows_plan, NO_PARTY, thing)
        self.assert_refused(NoParty, other_meeting, NO_PARTY, None, None, about=(1, 0))
        self.assert_refused(NoFit, other_meeting, FOUR, None, None, about=(1, 0))
        self.assert_refused(NoPair, other_meeting, FOUR, ONE, None, about=(1, 0))
        self.assert_refused(NoParty, settling, NO_PARTY, None, about=(1, 0))
        self.assert_refused(NoFit, settling, FOUR, None, about=(1, 0))
        # Too many persons come ahead of no meeting, and this ahead of too many meetings.
        for function in (best_question, plan, fewest_questions):
            self.assertEqual(self.assert_refused(TooMany, function, ((1,) * 7, (), ())).limit, 6)
            self.assert_refused(NoMeeting, function, ((None,) * 5 + (9,), (), ()))

    def test_about_by_its_name_only(self):
        for function in (lambda: other_meeting(FOUR, ONE, (), (0, 1)), lambda: settling(FOUR, ONE, (0, 1))):
            with self.assertRaises(TypeError):
                function()

    def test_nothing_is_changed(self):
        party, meeting, facts = ((None, 2, None, 1), ((0, 1),), ((0, 3),)), ((0, 1), (1, 2), (2, 3)), ((0, 2),)
        told_as(party, meeting, facts)
        other_meeting(party, meeting, facts)
        settling(party, meeting)
        settling(party, meeting, about=(1, 2))
        for function in (best_question, plan, fewest_questions):
            function(party)
        self.assertEqual((party, meeting, facts), (FACTS, ((0, 1), (1, 2), (2, 3)), ((0, 2),)))


if __name__ == "__main__":
    unittest.main()
