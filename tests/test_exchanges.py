"""Exchanges, ways and switches by the words of point 8, right ones and ones with one thing wrong."""

import functools
import random
import unittest

from metnumbers.errors import Mismatch, NoFit, NoParty, TooMany
from metnumbers.exchanges import (
    difference, exchanged, is_exchange, shows_way, switch_way, switches, way,
)
from metnumbers.meetings import is_meeting, least_meeting, meetings
from tests.cases import Case
from tests.odd_things import odd_things
from tests.plain import all_meetings, among, changed, drawn_parties, pairs_of, small_parties
from tests.plain_exchanges import (
    after, differing, fewest_exchanges, is_exchange_of, is_way, neighbours, switched, switches_between, walks,
)

FOUR = ((1, 1, 1, 1), (), ())
ONE, OTHER, THIRD = ((0, 1), (2, 3)), ((0, 2), (1, 3)), ((0, 3), (1, 2))
NOBODY = ((None, None, None), (), ())
FACTS = ((None, 2, None, 1), ((0, 1),), ((0, 3),))
NO_PARTY = ((2, 1), ((1, 0),), ())


def pairs_of_meetings(seed, sizes, how_many, most):
    """Return tuples of a drawn party and two of its meetings, up to so many of a party."""
    draw, found = random.Random(seed), []
    for party in drawn_parties(seed, sizes, how_many):
        right = all_meetings(party)
        if right:
            found += [(party, draw.choice(right), draw.choice(right)) for _ in range(most)]
    return found


def some_meetings(party, count=400):
    """Return the first meetings of a party, up to so many."""
    found = []
    for meeting in meetings(party):
        found.append(meeting)
        if len(found) == count:
            break
    return found


class ExchangeTest(Case):
    def test_all_walks_of_small_parties(self):
        seen = 0
        for party in small_parties((1, 2, None)):
            for meeting in all_meetings(party):
                for walk in walks(len(party[0]), 4):
                    seen += self.assert_judged(party, meeting, walk)
        self.assertGreater(seen, 400)

    def test_all_walks_of_four_persons(self):
        for party in [FOUR, ((None, 1, 1, None), (), ()), ((2, 2, None, None), ((0, 1),), ((1, 3),))]:
            meeting = all_meetings(party)[-1]
            found = [walk for walk in walks(4, 6) if self.assert_judged(party, meeting, walk)]
            self.assertTrue(found)

    def test_walks_of_drawn_parties(self):
        draw, found = random.Random(91), []
        for party in drawn_parties(91, (4, 5, 6), 60):
            for meeting in all_meetings(party)[:2]:
                for _ in range(60):
                    walk = tuple(draw.randrange(len(party[0])) for _ in range(draw.randrange(2, 7)))
                    found.append(self.assert_judged(party, meeting, walk))
        self.assertGreater(found.count(True), 50)

    def test_ends_at_one_person(self):
        # Evenly many pairs take from the first person what they give; an odd number needs one who told nothing.
        self.assert_told(True, is_exchange, FOUR, ONE, (0, 1, 3, 2, 0))
        self.assert_told(True, is_exchange, FOUR, ONE, (1, 0, 2, 3, 1))
        self.assert_told(True, is_exchange, FOUR, ONE, (1, 3, 2, 0, 1))
        odd = ((1, None, 1), (), ())
        self.assert_told(True, is_exchange, odd, ((0, 2),), (1, 0, 2, 1))
        self.assertEqual(exchanged(odd, ((0, 2),), (1, 0, 2, 1)), ((0, 1), (1, 2)))
        self.assert_told(True, is_exchange, odd, ((0, 1), (1, 2)), (1, 2, 0, 1))
        self.assert_told(False, is_exchange, odd, ((0, 2),), (0, 2, 1, 0))

    def test_begins_with_either_sort(self):
        nobody = ((None,) * 4, (), ())
        for meeting, walk in [(((0, 1),), (0, 1, 2)), ((), (0, 1)), (((0, 1),), (0, 1)), (((1, 2),), (0, 1, 2, 3))]:
            self.assert_told(True, is_exchange, nobody, meeting, walk)
        self.assert_told(False, is_exchange, nobody, ((0, 1), (1, 2)), (0, 1, 2))
        self.assert_told(False, is_exchange, nobody, (), (0, 1, 2))

    def test_ends_at_one_who_told_a_number(self):
        party = ((1, None, None, 0), (), ())
        self.assert_told(False, is_exchange, party, ((0, 1),), (0, 1))
        self.assert_told(False, is_exchange, party, ((0, 1),), (1, 0))
        self.assert_told(True, is_exchange, party, ((0, 1),), (1, 0, 2))
        self.assert_told(True, is_exchange, party, ((0, 1),), (1, 2))
        self.assert_told(False, is_exchange, party, ((0, 1),), (1, 3))

    def test_known_pairs(self):
        meeting = ((0, 1), (1, 2), (2, 3))
        self.assertTrue(is_meeting(FACTS, meeting))
        self.assert_told(True, is_exchange, FACTS, meeting, (0, 2))
        self.assert_told(False, is_exchange, FACTS, meeting, (0, 1, 2))
        self.assert_told(False, is_exchange, FACTS, meeting, (0, 3, 2))
        self.assert_told(True, is_exchange, FACTS, meeting, (2, 1, 3, 2))
        self.assert_told(True, is_exchange, FACTS, meeting, (2, 3, 1, 2))

    def test_things_that_are_none(self):
        wrong = {
            "a list": [0, 1, 3, 2, 0],
            "nothing": (),
            "one person": (0,),
            "a pair doubled": (0, 1, 0),
            "a ring run through twice": (0, 1, 3, 2, 0, 1, 3, 2, 0),
            "a person beside itself": (0, 0),
            "a person beside itself in a ring": (0, 1, 1, 3, 2, 0),
            "a person who is none": (0, 1, 4, 2, 0),
            "a person -1": (0, 1, -1, 2, 0),
            "True as a person": (0, True, 3, 2, 0),
            "False as a person": (False, 1, 3, 2, 0),
            "None as a person": (0, None, 3, 2, 0),
            "pairs": ((0, 1), (1, 3), (2, 3), (0, 2)),
            "not closed": (0, 1, 3, 2),
            "not by turns": (0, 2, 1, 3, 0),
            "a string": "01320",
            "a dict": {0: 1},
        }
        for why, thing in wrong.items():
            with self.subTest(why=why):
                self.assert_told(False, is_exchange, FOUR, ONE, thing)
                self.assert_refused(Mismatch, exchanged, FOUR, ONE, thing)
        for thing in [*odd_things(), *changed((0, 1, 3, 2, 0))]:
            self.assert_judged(FOUR, ONE, thing)
            self.assert_judged(FOUR, ONE, (0, thing))
        # What is an exchange here is none of another meeting.
        self.assert_told(False, is_exchange, FOUR, THIRD, (0, 1, 3, 2, 0))

    def assert_judged(self, party, meeting, thing):
        right = is_exchange_of(party, meeting, thing)
        self.assertIs(is_exchange(party, meeting, thing), right, (party, meeting, thing))
        if right:
            self.assertEqual(exchanged(party, meeting, thing), after(meeting, neighbours(thing)))
        else:
            with self.assertRaises(Mismatch):
                exchanged(party, meeting, thing)
        return right


class DifferenceTest(Case):
    def test_by_words(self):
        for party, one, other in pairs_of_meetings(92, (1, 2, 3, 4, 5), 40, 3):
            self.assertEqual(difference(party, one, other), differing(one, other))
            self.assertEqual(difference(party, one, one), [])

    def test_new_lists(self):
        self.assert_new_list(difference, FOUR, ONE, OTHER)
        self.assert_new_list(difference, FOUR, ONE, ONE)


class WayTest(Case):
    def test_all_ways_of_small_parties(self):
        for party in small_parties((0, 1, 2, None))[::3]:
            for one in all_meetings(party):
                for other in all_meetings(party):
                    self.assert_fewest(party, one, other)

    def test_four_persons(self):
        for numbers in [(1,) * 4, (2,) * 4, (None,) * 4, (None, 2, 2, None), (None, 1, 1, 1), (2, None, None, None)]:
            party = (numbers, (), ())
            right = all_meetings(party)
            for one in right[::5]:
                for other in right[::3]:
                    self.assert_fewest(party, one, other)

    def test_drawn_parties(self):
        more = 0
        for party, one, other in pairs_of_meetings(93, (4, 5), 160, 3) + pairs_of_meetings(94, (6,), 12, 1):
            if len(differing(one, other)) <= 9:
                more += self.assert_fewest(party, one, other) > 1
        self.assertGreater(more, 25)

    def test_rings_are_put_together(self):
        # All eight persons are in two pairs of each sort, which hang together: one exchange is enough.
        party = ((2,) * 8, (), ())
        one = ((0, 1), (0, 3), (1, 2), (2, 3), (4, 5), (4, 7), (5, 6), (6, 7))
        other = ((0, 2), (0, 4), (1, 3), (1, 5), (2, 6), (3, 7), (4, 6), (5, 7))
        self.assertEqual(len(differing(one, other)), 16)
        self.assertEqual(len(way(party, one, other)), 1)
        self.assertTrue(is_exchange(party, one, way(party, one, other)[0]))
        # Two rings that have no person in common are two exchanges.
        apart = ((0, 2), (0, 3), (1, 2), (1, 3), (4, 6), (4, 7), (5, 6), (5, 7))
        self.assertEqual(len(way(party, one, apart)), 2)
        self.assertTrue(shows_way(party, one, apart, way(party, one, apart)))

    def test_rings_beside_open_ends(self):
        # A ring between a ring and an exchange with open ends: all of it is one exchange.
        one, other = ((0, 1), (1, 4), (2, 3), (3, 7), (4, 5)), ((0, 3), (1, 2), (1, 3), (4, 6), (4, 7))
        party = ((1, 2, 1, 2, 2, None, None, 1), (), ())
        self.assertEqual(len(way(party, one, other)), 1)
        self.assertIs(shows_way(party, one, other, way(party, one, other)), True)

    def test_drawn_differences(self):
        draw, seen = random.Random(98), []
        for _ in range(1500):
            one = tuple(pair for pair in pairs_of(8) if draw.random() < draw.choice([0.3, 0.5, 0.7]))
            other = self.drawn_other(draw, one)
            count = [[sum(person in pair for pair in meeting) for person in range(8)] for meeting in (one, other)]
            party = (tuple(a if a == b else None for a, b in zip(*count)), (), ())
            thing = way(party, one, other)
            self.assertIs(shows_way(party, one, other, thing), True, (party, one, other))
            self.assert_ends_add_up(party, one, other, thing)
            seen.append(len(thing))
        self.assertGreater(min(seen.count(count) for count in range(4)), 10)

    def drawn_other(self, draw, one):
        """Return a meeting with some switches, and with some walks that end at other persons, done to another one."""
        now = set(one)
        for _ in range(draw.choice([0, 1, 2, 4, 6])):
            ring = draw.sample(range(8), 4)
            pairs = neighbours(tuple(ring + ring[:1]))
            if [pair in now for pair in pairs] in ([True, False] * 2, [False, True] * 2):
                now ^= set(pairs)
        for _ in range(draw.choice([0, 0, 1, 2, 4, 6])):
            walk = draw.sample(range(8), draw.choice([2, 3, 3, 4]))
            kinds = [pair in now for pair in neighbours(walk)]
            if all(kind != then for kind, then in zip(kinds, kinds[1:])):
                now ^= set(neighbours(walk))
        return tuple(sorted(now))

    def test_who_told_nothing_ends_ways(self):
        nobody = ((None,) * 8, (), ())
        star = tuple((0, person) for person in range(1, 8))
        # No two pairs of one sort stand next to one another in an exchange.
        self.assertEqual(len(way(nobody, (), star)), 7)
        self.assertEqual(len(way(nobody, (), tuple(pairs_of(8)))), 28)
        self.assertEqual(len(way(nobody, star[:3], star[3:])), 4)
        ends = ((None,) + (1,) * 7, (), ())
        one = ((0, 1), (2, 3), (4, 5), (6, 7))
        other = ((0, 1), (0, 2), (0, 3), (4, 5), (6, 7))
        self.assertIn(way(ends, one, other), ([(0, 2, 3, 0)], [(0, 3, 2, 0)]))

    def test_from_a_meeting_to_itself(self):
        for party in [FOUR, NOBODY, ((0,), (), ()), FACTS]:
            meeting = all_meetings(party)[0]
            self.assertEqual(way(party, meeting, meeting), [])
            self.assert_told(True, shows_way, party, meeting, meeting, [])
            self.assert_told(False, shows_way, party, meeting, meeting, ())
        self.assert_told(False, shows_way, FOUR, ONE, ONE, [(0, 1, 3, 2, 0), (0, 1, 3, 2, 0)])

    def test_eight_persons(self):
        draw, seen = random.Random(95), 0
        parties = drawn_parties(95, (7, 8), 60) + [((k,) * 8, (), ()) for k in (0, 1, 2, 3, 4, 5, 6, 7, None)]
        for party in parties:
            if least_meeting(party) is None:
                continue
            found = some_meetings(party)
            for _ in range(3):
                one, other = draw.choice(found), draw.choice(found)
                with self.within():
                    thing = way(party, one, other)
                self.assertIs(shows_way(party, one, other, thing), True)
                self.assertLessEqual(len(thing), len(differing(one, other)))
                self.assert_ends_add_up(party, one, other, thing)
                seen += len(thing) > 1
        self.assertGreater(seen, 30)

    def assert_ends_add_up(self, party, one, other, thing):
        """Assert that there are as few exchanges as ends and pieces of the difference ask for."""
        left, needed = differing(one, other), 0
        while left:
            piece = {left[0]}
            for _ in left:
                piece |= {pair for pair in left if any(set(pair) & set(near) for near in piece)}
            more = [sum((1 if pair in one else -1) for pair in piece if person in pair) for person in range(8)]
            needed += max(1, sum(map(abs, more)) // 2)
            left = [pair for pair in left if pair not in piece]
        self.assertEqual(len(thing), needed, (party, one, other))

    def assert_fewest(self, party, one, other):
        thing = way(party, one, other)
        self.assertTrue(is_way(party, one, other, thing), (party, one, other, thing))
        self.assertIs(shows_way(party, one, other, thing), True)
        self.assertEqual(len(thing), fewest_exchanges(party, one, other), (party, one, other, thing))
        return len(thing)


class ShowsWayTest(Case):
    def test_ways_with_one_thing_wrong(self):
        across = tuple((a, b) for a in range(4) for b in range(4, 7))
        party = ((1, 1, 1, 1, None, None, None), (), across)
        one, other = ((0, 1), (2, 3), (4, 5)), ((0, 2), (1, 3), (4, 6))
        right = [(0, 1, 3, 2, 0), (5, 4, 6)]
        self.assert_told(True, shows_way, party, one, other, right)
        self.assert_told(True, shows_way, party, one, other, right[::-1])
        self.assert_told(True, shows_way, party, one, other, [right[0], (4, 5), (6, 4)])
        wrong = {
            "a tuple": tuple(right),
            "nothing": [],
            "an exchange is missing": right[:1],
            "the other one is missing": right[1:],
            "an exchange twice": right + right[1:],
            "there and back": right + [right[1], right[1]],
            "one that leads elsewhere": [(0, 1, 2, 3, 0), right[1]],
            "a pair that stays": [right[0], right[1], (5, 6)],
            "a pair that stays, there and back": [right[0], right[1], (5, 6), (5, 6)],
            "none": [right[0], None],
            "a list as an exchange": [right[0], [5, 4, 6]],
            "True in an exchange": [(0, True, 3, 2, 0), right[1]],
            "one exchange as it is": right[0],
            "a dict": {0: right[0], 1: right[1]},
            "an exchange with more": [right[0] + (1,), right[1]],
            "pairs for exchanges": [(0, 1), (2, 3), (0, 2), (1, 3), right[1]],
        }
        for why, thing in wrong.items():
            with self.subTest(why=why):
                self.assert_told(False, shows_way, party, one, other, thing)
                self.assertIs(is_way(party, one, other, thing), False)

    def test_changed_ways(self):
        for party, one, other in [
            (FOUR, ONE, OTHER), (FACTS, all_meetings(FACTS)[0], all_meetings(FACTS)[-1]),
            (NOBODY, ((0, 1),), ((0, 2), (1, 2))), (((None, 1, 1, None), (), ()), ((0, 1), (2, 3)), ((0, 2), (1, 3))),
        ]:
            thing = way(party, one, other)
            for wrong in changed(thing):
                self.assert_told(is_way(party, one, other, wrong), shows_way, party, one, other, wrong)

    def test_longer_ways_are_ways(self):
        party, pairs = ((None,) * 4, (), ()), tuple(pairs_of(4))
        self.assert_told(True, shows_way, party, (), pairs, [pair for pair in pairs])
        self.assert_told(True, shows_way, party, (), pairs, [pair[::-1] for pair in reversed(pairs)])
        self.assert_told(False, shows_way, party, (), pairs, [pair for pair in pairs] + [(0, 1)])

    def test_objects_of_any_form(self):
        for thing in odd_things():
            self.assert_told(False, shows_way, FOUR, ONE, OTHER, thing)
            self.assert_told(False, shows_way, FOUR, ONE, OTHER, [thing])
            self.assert_told(False, shows_way, FOUR, ONE, OTHER, [(0, 1, 3, 2, 0), thing])
            # Only the empty list is a way from a meeting to itself.
            self.assert_told(thing == [], shows_way, FOUR, ONE, ONE, thing)


class SwitchTest(Case):
    def test_by_hand(self):
        self.assertEqual(switches(FOUR, ONE), [OTHER, THIRD])
        self.assertEqual(switch_way(FOUR, OTHER, THIRD), [OTHER, THIRD])
        self.assertEqual(switch_way(FOUR, ONE, ONE), [ONE])
        self.assertEqual(switches(NOBODY, ()), [])
        # A pair of met stays, and one of apart can't be put in.
        self.assertEqual(switches(((1, 1, 1, 1), ((0, 1),), ()), ONE), [])
        self.assertEqual(switches(((1, 1, 1, 1), (), ((0, 2),)), ONE), [THIRD])

    def test_by_words(self):
        for party in drawn_parties(96, (4, 5), 60) + [((2,) * 5, (), ()), ((None,) * 4, (), ())]:
            for meeting in all_meetings(party)[::7]:
                self.assertEqual(switches(party, meeting), switched(party, meeting), (party, meeting))

    def test_switch_way_of_five_persons(self):
        ways = nones = 0
        for party, one, other in pairs_of_meetings(97, (4, 5), 90, 4):
            right = switches_between(party, one)
            found = switch_way(party, one, other)
            if other not in right:
                self.assertIsNone(found, (party, one, other))
                nones += 1
                continue
            self.assert_switch_way(party, one, other, found)
            self.assertEqual(len(found), right[other] + 1)
            ways += len(found) > 1
        self.assertGreater(min(ways, nones), 15)

    def test_no_facts_and_all_told(self):
        for numbers in [(1, 1, 1, 1, 2), (2,) * 5, (2, 2, 2, 2, 4), (3, 2, 2, 2, 1), (2, 2, 1, 1)]:
            party = (numbers, (), ())
            right = all_meetings(party)
            for other in right:
                self.assert_switch_way(party, right[0], other, switch_way(party, right[0], other))

    def test_none_because_of_facts(self):
        # Three rings of six apart: only an exchange of all six pairs leads to the other meeting.
        ring = tuple(sorted(tuple(sorted((k, (k + 1) % 6))) for k in range(6)))
        party = ((1,) * 6, (), tuple(pair for pair in pairs_of(6) if pair not in ring))
        one, other = all_meetings(party)
        self.assertIsNone(switch_way(party, one, other))
        self.assertEqual(len(way(party, one, other)), 1)
        self.assertIsNotNone(switch_way(((1,) * 6, (), ()), one, other))

    def test_none_because_of_who_told_nothing(self):
        for party in [((None, None), (), ()), NOBODY, ((None, None, 1, 1), (), ())]:
            found = [
                switch_way(party, one, other) is None for one in all_meetings(party) for other in all_meetings(party)
            ]
            self.assertIn(True, found)
            self.assertIn(False, found)
        self.assertIsNone(switch_way(((None, None), (), ()), (), ((0, 1),)))

    def test_six_persons(self):
        for number in (1, 2, 3):
            party = ((number,) * 6, (), ())
            right = all_meetings(party)
            with self.within():
                for other in right[::6]:
                    self.assert_switch_way(party, right[-1], other, switch_way(party, right[-1], other))
        for party in [((None,) * 6, (), ()), ((None, 3, 3, 3, 3, None), (), ())]:
            found = some_meetings(party)
            with self.within():
                self.assertIsNone(switch_way(party, found[0], found[5]))

    def test_switches_of_eight(self):
        for party in [((3,) * 8, (), ()), ((None,) * 8, (), ()), ((4,) * 8, ((0, 1),), ((2, 3),))]:
            meeting = some_meetings(party)[-1]
            with self.within():
                found = switches(party, meeting)
            self.assertEqual(found, switched_of_eight(party, meeting))

    def test_too_many(self):
        for number, many in [(0, 7), (None, 7), (1, 8), (2, 8)]:
            party = ((number,) * many, (), ())
            meeting = least_meeting(party)
            self.assertEqual(self.assert_refused(TooMany, switch_way, party, meeting, meeting).limit, 6)
            self.assert_refused(NoFit, switch_way, party, None, meeting)
            self.assert_refused(NoFit, switch_way, party, meeting, None)

    def assert_switch_way(self, party, one, other, found):
        self.assertIs(type(found), list)
        self.assertEqual((found[0], found[-1]), (one, other))
        for now, then in zip(found, found[1:]):
            self.assertIn(then, switched(party, now))


def switched_of_eight(party, meeting):
    """Return the meetings that a switch leads to, without going through all meetings."""
    known = party[1] + party[2]
    found = set()
    for one in pairs_of(8):
        for other in pairs_of(8):
            if one < other and not set(one) & set(other):
                for near, far in ((other), (other[::-1])):
                    put = [tuple(sorted((one[0], near))), tuple(sorted((one[1], far)))]
                    if one in meeting and other in meeting and not set(put) & set(meeting):
                        if not set(known) & {one, other, *put}:
                            found.add(after(meeting, [one, other, *put]))
    return sorted(found)


class RefusedTest(Case):
    def test_no_party(self):
        for thing in [*odd_things(), NO_PARTY, list(FOUR), [FOUR]]:
            for function in (difference, way, switch_way):
                self.assert_refused(NoParty, function, thing, ONE, OTHER)
            for function in (is_exchange, exchanged):
                self.assert_refused(NoParty, function, thing, ONE, (0, 1, 3, 2, 0))
            self.assert_refused(NoParty, switches, thing, ONE)
            self.assert_refused(NoParty, shows_way, thing, ONE, OTHER, [])

    def test_no_meeting(self):
        for thing in [*odd_things(), *changed(ONE), (), ((0, 1),), list(ONE)]:
            if among(thing, all_meetings(FOUR)):
                continue
            for function in (difference, way, switch_way):
                self.assert_refused(NoFit, function, FOUR, thing, OTHER)
                self.assert_refused(NoFit, function, FOUR, ONE, thing)
            self.assert_refused(NoFit, is_exchange, FOUR, thing, (0, 1, 3, 2, 0))
            self.assert_refused(NoFit, exchanged, FOUR, thing, (0, 1, 3, 2, 0))
            self.assert_refused(NoFit, switches, FOUR, thing)
            self.assert_refused(NoFit, shows_way, FOUR, thing, OTHER, [])
            self.assert_refused(NoFit, shows_way, FOUR, ONE, thing, [])

    def test_first_error(self):
        for thing in [None, [], (0, 7)]:
            for function in (difference, way, switch_way, is_exchange, exchanged):
                self.assert_refused(NoParty, function, NO_PARTY, thing, thing)
            self.assert_refused(NoParty, switches, NO_PARTY, thing)
            self.assert_refused(NoParty, shows_way, NO_PARTY, thing, thing, thing)
            self.assert_refused(NoFit, exchanged, FOUR, thing, thing)
            self.assert_refused(NoFit, shows_way, FOUR, ONE, thing, thing)
        # A party without a meeting has none that could be passed.
        self.assert_refused(NoFit, switches, ((1,), (), ()), ())
        self.assert_refused(NoParty, switch_way, ((1,) * 9, (), ()), (), ())

    def test_lists_are_new(self):
        self.assert_new_list(way, FOUR, ONE, OTHER)
        self.assert_new_list(way, FOUR, ONE, ONE)
        self.assert_new_list(switches, FOUR, ONE)
        self.assert_new_list(functools.partial(switch_way, FOUR), ONE, OTHER)
        self.assert_new_list(switch_way, FOUR, ONE, ONE)

    def test_nothing_is_changed(self):
        thing = [(0, 1, 3, 2, 0)]
        self.assert_told(True, shows_way, FOUR, ONE, OTHER, thing)
        self.assertEqual(thing, [(0, 1, 3, 2, 0)])
        thing.append((0, 1))
        self.assert_told(False, shows_way, FOUR, ONE, OTHER, thing)


if __name__ == "__main__":
    unittest.main()
