"""The functions of parties at small parties worked out by hand, and at all parties of up to three persons."""

import itertools
import unittest

from metnumbers.parties import (
    free_pairs, is_party, join, look_alike, needs, persons, told, two_sided, with_apart, with_free, with_met,
)
from tests.plain import small_parties

PARTY = ((2, 1, 1, None), ((0, 1),), ((0, 3),))
EIGHT = ((None,) * 8, (), ())


class PersonsTest(unittest.TestCase):
    def test_persons(self):
        self.assertEqual([persons(PARTY), persons(((0,), (), ())), persons(EIGHT)], [4, 1, 8])

    def test_free_pairs(self):
        self.assertEqual(free_pairs(PARTY), [(0, 2), (1, 2), (1, 3), (2, 3)])
        self.assertEqual(free_pairs(((3,), (), ())), [])
        self.assertEqual(free_pairs(((1, 1), (), ())), [(0, 1)])
        self.assertEqual(free_pairs(((1, 1), ((0, 1),), ())), [])
        self.assertEqual(free_pairs(((1, 1), (), ((0, 1),))), [])
        self.assertEqual(free_pairs(EIGHT), list(itertools.combinations(range(8), 2)))

    def test_needs(self):
        self.assertEqual(needs(PARTY), [1, 0, 1, None])
        self.assertEqual(needs(((20,), (), ())), [20])
        self.assertEqual(needs(((3, 2, None), (), ((0, 1), (1, 2)))), [3, 2, None])
        self.assertEqual(needs(((3, 2, 2), ((0, 1), (0, 2), (1, 2)), ())), [1, 0, 0])
        self.assertEqual(needs(((None, None), ((0, 1),), ())), [None, None])

    def test_needs_below_zero(self):
        self.assertEqual(needs(((0, 0), ((0, 1),), ())), [-1, -1])
        star = ((0, 1, 0, None, 5), ((0, 1), (0, 2), (0, 3), (0, 4), (2, 4)), ())
        self.assertEqual(needs(star), [-4, 0, -2, None, 3])


class FactsTest(unittest.TestCase):
    def test_with_met(self):
        numbers = PARTY[0]
        self.assertEqual(with_met(PARTY, (0, 2)), (numbers, ((0, 1), (0, 2)), ((0, 3),)))
        self.assertEqual(with_met((numbers, ((0, 3), (2, 3)), ()), (0, 1)), (numbers, ((0, 1), (0, 3), (2, 3)), ()))
        self.assertEqual(with_met((numbers, ((0, 3), (2, 3)), ()), (1, 2)), (numbers, ((0, 3), (1, 2), (2, 3)), ()))
        self.assertEqual(with_met(((0, 0), (), ()), (0, 1)), ((0, 0), ((0, 1),), ()))

    def test_with_apart(self):
        numbers = PARTY[0]
        self.assertEqual(with_apart(PARTY, (1, 2)), (numbers, ((0, 1),), ((0, 3), (1, 2))))
        self.assertEqual(with_apart(PARTY, (0, 2)), (numbers, ((0, 1),), ((0, 2), (0, 3))))
        self.assertEqual(with_apart(((0, 0), (), ()), (0, 1)), ((0, 0), (), ((0, 1),)))

    def test_with_free(self):
        numbers = PARTY[0]
        self.assertEqual(with_free(PARTY, (0, 1)), (numbers, (), ((0, 3),)))
        self.assertEqual(with_free(PARTY, (0, 3)), (numbers, ((0, 1),), ()))
        known = (numbers, ((0, 1), (0, 2), (1, 2)), ((0, 3), (1, 3), (2, 3)))
        self.assertEqual(with_free(known, (0, 2)), (numbers, ((0, 1), (1, 2)), known[2]))
        self.assertEqual(with_free(known, (1, 3)), (numbers, known[1], ((0, 3), (2, 3))))

    def test_facts_of_small_parties(self):
        for party in small_parties((0, 2, None)):
            numbers, met, apart = party
            for pair in itertools.combinations(range(len(numbers)), 2):
                with self.subTest(party=party, pair=pair):
                    if pair in free_pairs(party):
                        self.assertEqual(with_met(party, pair), (numbers, tuple(sorted(met + (pair,))), apart))
                        self.assertEqual(with_apart(party, pair), (numbers, met, tuple(sorted(apart + (pair,)))))
                        self.assertEqual(with_free(with_met(party, pair), pair), party)
                        self.assertEqual(with_free(with_apart(party, pair), pair), party)
                    else:
                        self.assertIn(pair, free_pairs(with_free(party, pair)))


class ToldTest(unittest.TestCase):
    def test_told(self):
        self.assertEqual(told(PARTY, 0, 5), ((5, 1, 1, None), ((0, 1),), ((0, 3),)))
        self.assertEqual(told(PARTY, 1, None), ((2, None, 1, None), ((0, 1),), ((0, 3),)))
        self.assertEqual(told(PARTY, 3, 0), ((2, 1, 1, 0), ((0, 1),), ((0, 3),)))
        self.assertEqual(told(PARTY, 3, 20), ((2, 1, 1, 20), ((0, 1),), ((0, 3),)))
        self.assertEqual(told(PARTY, 2, 1), PARTY)
        self.assertEqual(told(((None,), (), ()), 0, 7), ((7,), (), ()))


class TwoSidedTest(unittest.TestCase):
    def test_both_sides(self):
        self.assertEqual(two_sided((1, 1), (2,)), ((1, 1, 2), (), ((0, 1),)))
        self.assertEqual(two_sided((1,), (2, 3)), ((1, 2, 3), (), ((1, 2),)))
        self.assertEqual(two_sided((4, 5), (6, 7)), ((4, 5, 6, 7), (), ((0, 1), (2, 3))))
        apart = ((0, 1), (0, 2), (1, 2), (3, 4))
        self.assertEqual(two_sided((0, 20, 1), (2, 3)), ((0, 20, 1, 2, 3), (), apart))
        self.assertEqual(two_sided((1,), (1,)), ((1, 1), (), ()))

    def test_who_told_nothing(self):
        self.assertEqual(two_sided((None, 1), (None,)), ((None, 1, None), (), ((0, 1),)))

    def test_hosts_or_guests_alone(self):
        self.assertEqual(two_sided((3,), ()), ((3,), (), ()))
        self.assertEqual(two_sided((), (3,)), ((3,), (), ()))
        self.assertEqual(two_sided((1, 2, 3), ()), ((1, 2, 3), (), ((0, 1), (0, 2), (1, 2))))
        self.assertEqual(two_sided((), (1, 2, 3)), ((1, 2, 3), (), ((0, 1), (0, 2), (1, 2))))

    def test_eight_persons(self):
        for hosts in range(9):
            party = two_sided((1,) * hosts, (2,) * (8 - hosts))
            self.assertTrue(is_party(party))
            self.assertEqual(party[:2], ((1,) * hosts + (2,) * (8 - hosts), ()))
            across = list(itertools.product(range(hosts), range(hosts, 8)))
            self.assertEqual(free_pairs(party), across)


class JoinTest(unittest.TestCase):
    def test_join(self):
        self.assertEqual(join(((1,), (), ()), ((None,), (), ())), ((1, None), (), ((0, 1),)))
        across = ((0, 2), (0, 3), (1, 2), (1, 3))
        self.assertEqual(join(((1, 2), (), ()), ((3, 4), (), ())), ((1, 2, 3, 4), (), across))

    def test_facts_go_on(self):
        one = ((1, 2), ((0, 1),), ())
        other = ((3, 4, None), ((1, 2),), ((0, 1), (0, 2)))
        apart = ((0, 2), (0, 3), (0, 4), (1, 2), (1, 3), (1, 4), (2, 3), (2, 4))
        self.assertEqual(join(one, other), ((1, 2, 3, 4, None), ((0, 1), (3, 4)), apart))
        apart = ((0, 1), (0, 2), (0, 3), (0, 4), (1, 3), (1, 4), (2, 3), (2, 4))
        self.assertEqual(join(other, one), ((3, 4, None, 1, 2), ((1, 2), (3, 4)), apart))

    def test_with_itself(self):
        one = ((1, 1), ((0, 1),), ())
        across = ((0, 2), (0, 3), (1, 2), (1, 3))
        self.assertEqual(join(one, one), ((1, 1, 1, 1), ((0, 1), (2, 3)), across))

    def test_eight_persons(self):
        for many in range(1, 8):
            party = join(((1,) * many, (), ()), ((2,) * (8 - many), (), ()))
            self.assertTrue(is_party(party))
            self.assertEqual(party[0], (1,) * many + (2,) * (8 - many))
            self.assertEqual(party[2], tuple(itertools.product(range(many), range(many, 8))))

    def test_small_parties(self):
        parties = small_parties((0, 2, None))
        for one, other in zip(parties, reversed(parties)):
            start, many = len(one[0]), len(one[0]) + len(other[0])
            party = join(one, other)
            with self.subTest(one=one, other=other):
                self.assertTrue(is_party(party))
                self.assertEqual(party[0], one[0] + other[0])
                self.assertEqual(set(party[1]), set(one[1]) | {(a + start, b + start) for a, b in other[1]})
                across = set(itertools.product(range(start), range(start, many)))
                apart = set(one[2]) | {(a + start, b + start) for a, b in other[2]} | across
                self.assertEqual(set(party[2]), apart)


class LookAlikeTest(unittest.TestCase):
    def test_by_numbers(self):
        self.assertEqual(look_alike(((3,), (), ())), [])
        self.assertEqual(look_alike(((1, 1), (), ())), [(0, 1)])
        self.assertEqual(look_alike(((1, 2), (), ())), [])
        self.assertEqual(look_alike(((None, 0), (), ())), [])
        self.assertEqual(look_alike(((None, 0, None), (), ())), [(0, 2)])
        self.assertEqual(look_alike(((1, 2, 1, 2, 1), (), ())), [(0, 2), (0, 4), (1, 3), (2, 4)])
        self.assertEqual(look_alike(EIGHT), list(itertools.combinations(range(8), 2)))

    def test_by_facts(self):
        self.assertEqual(look_alike(two_sided((1, 1), (2,))), [(0, 1)])
        self.assertEqual(look_alike(two_sided((1, 1), (1, 1))), [(0, 1), (2, 3)])
        # The pair of the two who change places may be known itself.
        self.assertEqual(look_alike(((1, 1, 1), ((0, 1),), ())), [(0, 1)])
        self.assertEqual(look_alike(((1, 1, 1), (), ((1, 2),))), [(1, 2)])
        self.assertEqual(look_alike(((1, 1, 1), ((0, 1),), ((0, 2),))), [])
        self.assertEqual(look_alike(((1, 1, 1), ((0, 1), (0, 2)), ())), [(1, 2)])
        self.assertEqual(look_alike(((1, 1, 1, 1), ((0, 1), (2, 3)), ())), [(0, 1), (2, 3)])
        self.assertEqual(look_alike(((1, 1, 1, 1), ((0, 3),), ((1, 2),))), [(0, 3), (1, 2)])

    def test_small_parties(self):
        for party in small_parties((0, 2, None)):
            numbers, met, apart = party
            right = []
            for one, other in itertools.combinations(range(len(numbers)), 2):
                alike = numbers[one] == numbers[other]
                for third in set(range(len(numbers))) - {one, other}:
                    for pairs in (met, apart):
                        first, second = tuple(sorted((one, third))), tuple(sorted((other, third)))
                        alike = alike and (first in pairs) == (second in pairs)
                if alike:
                    right.append((one, other))
            self.assertEqual(look_alike(party), right, party)


class NewTest(unittest.TestCase):
    def test_returned_lists_are_new(self):
        party = ((1, 1, None, None), (), ())
        for function in (free_pairs, needs, look_alike):
            with self.subTest(function=function.__name__):
                first = function(party)
                kept = list(first)
                self.assertIsInstance(first, list)
                first.clear()
                self.assertEqual(function(party), kept)
                self.assertIsNot(function(party), function(party))

    def test_returned_parties_are_parties(self):
        made = [
            with_met(PARTY, (2, 3)), with_apart(PARTY, (2, 3)), with_free(PARTY, (0, 1)), told(PARTY, 0, None),
            two_sided((1,), (1, 1)), join(PARTY, PARTY),
        ]
        for party in made:
            self.assertTrue(is_party(party), party)
        self.assertEqual(PARTY, ((2, 1, 1, None), ((0, 1),), ((0, 3),)))


if __name__ == "__main__":
    unittest.main()
