"""is_party and need_party: each condition of point 3, one at a time."""

import copy
import itertools
import unittest

from metnumbers.errors import NoParty
from metnumbers.parties import is_party, need_party
from tests.odd_things import odd_things

ALL = tuple(itertools.combinations(range(8), 2))

PARTIES = [
    ((0,), (), ()),
    ((20,), (), ()),
    ((None,), (), ()),
    ((1, 1), ((0, 1),), ()),
    ((1, 1), (), ((0, 1),)),
    ((None, None), (), ()),
    ((2, 1, 1, None), ((0, 1),), ((0, 3),)),
    ((2, 1, 1, None), ((0, 1), (0, 2), (1, 2)), ((0, 3), (1, 3), (2, 3))),
    # Numbers and facts need not go together: no meeting is asked for.
    ((0, 0), ((0, 1),), ()),
    ((20, 20, 20), (), ((0, 1), (0, 2), (1, 2))),
    ((0, 1, 2, 3, 4, 5, 6, 7), (), ()),
    ((20,) * 8, (), ()),
    ((None,) * 8, (), ()),
    ((None, 20, 0, None, 7, 8, 19, None), ((0, 7), (1, 2), (6, 7)), ((0, 1), (5, 7))),
    ((7,) * 8, ALL, ()),
    ((0,) * 8, (), ALL),
    ((3,) * 8, ALL[::2], ALL[1::2]),
]

NO_PARTIES = {
    "no person": ((), (), ()),
    "nine persons": ((1,) * 9, (), ()),
    "many persons": ((1,) * 5000, (), ()),
    "a number of -1": ((1, -1), (), ()),
    "a number of 21": ((21, 1), (), ()),
    "a great number": ((1, 10**12), (), ()),
    "a number True": ((1, True), (), ()),
    "a number False": ((False,), (), ()),
    "a string as a number": ((1, "1"), (), ()),
    "a tuple as a number": ((1, (1,)), (), ()),
    "a list as a number": ((1, [1]), (), ()),
    "a dict as a number": ((1, {}), (), ()),
    "numbers as a list": ([1, 1], (), ()),
    "numbers as a dict": ({0: 1}, (), ()),
    "numbers as a string": ("11", (), ()),
    "one number": (1, (), ()),
    "no numbers": (None, (), ()),
    "a list of three": [(1, 1), (), ()],
    "met as a list": ((1, 1), [(0, 1)], ()),
    "met as an empty list": ((1, 1), [], ()),
    "apart as a list": ((1, 1), (), [(0, 1)]),
    "apart as an empty list": ((1, 1), (), []),
    "a pair of met as a list": ((1, 1), ([0, 1],), ()),
    "a pair of apart as a list": ((1, 1), (), ([0, 1],)),
    "met None": ((1, 1), None, ()),
    "apart None": ((1, 1), (), None),
    "met a pair": ((1, 1), (0, 1), ()),
    "apart a pair": ((1, 1), (), (0, 1)),
    "met a dict": ((1, 1), {(0, 1): True}, ()),
    "apart a string": ((1, 1), (), ""),
    "a pair of met the wrong way round": ((1, 1), ((1, 0),), ()),
    "a pair of apart the wrong way round": ((1, 1), (), ((1, 0),)),
    "a pair of one person in met": ((1, 1), ((1, 1),), ()),
    "a pair of one person in apart": ((1, 1), (), ((0, 0),)),
    "a person in met who is none": ((1, 1), ((0, 2),), ()),
    "a person in apart who is none": ((1, 1), (), ((1, 2),)),
    "a ninth person in met": ((1,) * 8, ((0, 8),), ()),
    "a person -1 in met": ((1, 1), ((-1, 0),), ()),
    "a person -1 in apart": ((1, 1), (), ((-1, 1),)),
    "persons as bools in met": ((1, 1), ((False, True),), ()),
    "a person True in met": ((1, 1), ((0, True),), ()),
    "a person False in apart": ((1, 1), (), ((False, 1),)),
    "persons as strings": ((1, 1), (("0", "1"),), ()),
    "a person None": ((1, 1), ((None, 1),), ()),
    "a pair of one thing": ((1, 1), ((0,),), ()),
    "a pair of three things": ((1, 1, 1), ((0, 1, 2),), ()),
    "an empty pair": ((1, 1), ((),), ()),
    "a pair None": ((1, 1), (None,), ()),
    "a pair as a string": ((1, 1), ("01",), ()),
    "a pair twice in met": ((1, 1), ((0, 1), (0, 1)), ()),
    "a pair twice in apart": ((1, 1), (), ((0, 1), (0, 1))),
    "met not ascending": ((1, 1, 1), ((0, 2), (0, 1)), ()),
    "met not ascending at its end": ((1, 1, 1), ((0, 1), (1, 2), (0, 2)), ()),
    "apart not ascending": ((1, 1, 1), (), ((1, 2), (0, 2))),
    "something else among the pairs": ((1, 1, 1), ((0, 1), 7, (1, 2)), ()),
    "a pair in both": ((1, 1), ((0, 1),), ((0, 1),)),
    "a later pair in both": ((1, 1, 1), ((0, 1), (1, 2)), ((0, 2), (1, 2))),
    "two things": ((1, 1), ()),
    "four things": ((1, 1), (), (), ()),
    "one thing": ((1, 1),),
    "nothing": (),
}


class IsPartyTest(unittest.TestCase):
    def test_parties(self):
        for party in PARTIES:
            with self.subTest(party=party):
                self.assertIs(is_party(party), True)
                self.assertIsNone(need_party(party))

    def test_each_number(self):
        for number in range(-3, 25):
            self.assertIs(is_party(((number,), (), ())), 0 <= number <= 20, number)

    def test_each_many(self):
        self.assertEqual([many for many in range(12) if is_party(((0,) * many, (), ()))], list(range(1, 9)))

    def test_each_pair_at_each_many(self):
        for many in range(1, 9):
            for one, other in itertools.product(range(-1, 10), repeat=2):
                right = 0 <= one < other < many
                self.assertIs(is_party(((None,) * many, ((one, other),), ())), right)
                self.assertIs(is_party(((None,) * many, (), ((one, other),))), right)

    def test_single_conditions_broken(self):
        for why, thing in NO_PARTIES.items():
            with self.subTest(why=why):
                self.assert_no_party(thing)

    def test_objects_of_any_form(self):
        for thing in odd_things():
            self.assert_no_party(thing)
            self.assert_no_party((thing, (), ()))
            self.assert_no_party(((thing, -1), (), ()))
            self.assert_no_party(((1, 1), thing, ()))
            self.assert_no_party(((1, 1), (), thing))
            self.assert_no_party(((1, 1), (thing,), ()))
            self.assert_no_party(((1, 1), (), (thing,)))
            self.assert_no_party(((1, 1), ((thing, 1),), ()))
            self.assert_no_party(((1, 1), (), ((0, thing),)))

    def assert_no_party(self, thing):
        ahead = copy.deepcopy(thing)
        self.assertIs(is_party(thing), False)
        with self.assertRaises(NoParty):
            need_party(thing)
        self.assertEqual(thing, ahead)


if __name__ == "__main__":
    unittest.main()
