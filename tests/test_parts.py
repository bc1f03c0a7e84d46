"""Which persons hang together by pairs."""

import itertools
import random
import unittest

from metnumbers.parts import how_many_in, links_of, mask_of, part_from, parts_of, persons_in
from tests.plain import hanging, pairs_of


class PartsTest(unittest.TestCase):
    def test_by_hand(self):
        self.assertEqual(parts_of([], [(0, 1)]), [])
        self.assertEqual(parts_of([3], []), [(3,)])
        self.assertEqual(parts_of([0, 1, 2, 3], [(0, 3), (1, 2)]), [(0, 3), (1, 2)])
        self.assertEqual(parts_of([0, 1, 2, 3], [(0, 1), (1, 2), (2, 3), (0, 3)]), [(0, 1, 2, 3)])

    def test_pairs_with_others_do_not_count(self):
        self.assertEqual(parts_of([0, 2], [(0, 1), (1, 2)]), [(0,), (2,)])
        self.assertEqual(parts_of([0, 2, 5], [(1, 3), (0, 5), (3, 4)]), [(0, 5), (2,)])

    def test_drawn_pairs(self):
        draw = random.Random(71)
        for many, often in itertools.product(range(1, 9), (0.1, 0.2, 0.3, 0.5)):
            for _ in range(20):
                pairs = [pair for pair in pairs_of(many) if draw.random() < often]
                members = [person for person in range(many) if draw.random() < 0.8]
                self.assertEqual(parts_of(members, pairs), hanging(members, pairs))

    def test_masks(self):
        for mask in range(256):
            persons = persons_in(mask)
            self.assertEqual(persons, tuple(person for person in range(8) if mask >> person & 1))
            self.assertEqual(mask_of(persons), mask)
            self.assertEqual(how_many_in(mask), len(persons))

    def test_links(self):
        self.assertEqual(links_of(3, []), [0, 0, 0])
        self.assertEqual(links_of(4, [(0, 1), (1, 3)]), [0b10, 0b1001, 0, 0b10])
        self.assertEqual(part_from(0b1, 0b1011, links_of(4, [(0, 1), (1, 3)])), 0b1011)
        self.assertEqual(part_from(0b1, 0b1001, links_of(4, [(0, 1), (1, 3)])), 0b1)


if __name__ == "__main__":
    unittest.main()
