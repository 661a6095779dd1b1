"""Point 14: the vote."""

import unittest
from copy import deepcopy

from rotward.words import vote
from tests.rules import changed, sector

A = sector(1)
B = sector(2)


def ballot(of_a, of_b, gone):
    """So many cells of each kind, the first content not in front."""
    return [None] * gone + [B] * of_b + [A] * of_a


class TestVote(unittest.TestCase):
    def test_all_the_same(self):
        self.assertEqual(vote([A, A, A, A], 1), A)

    def test_more_than_s_disks_and_exactly_s(self):
        for s in (1, 2, 3):
            self.assertEqual(vote(ballot(s + 1, 0, 7 - s), s), A)
            self.assertIsNone(vote(ballot(s, 0, 8 - s), s))

    def test_at_most_s_others_and_one_more(self):
        for s in (1, 2, 3):
            self.assertEqual(vote(ballot(8 - s, s, 0), s), A)
            self.assertEqual(vote(ballot(s + 1, s, 0), s), A)
        self.assertIsNone(vote(ballot(6, 2, 0), 1))
        self.assertIsNone(vote(ballot(5, 3, 0), 2))

    def test_others_that_differ_among_themselves(self):
        self.assertEqual(vote([changed(A), A, B, A, A], 2), A)
        self.assertIsNone(vote([changed(A), A, B, A, A], 1))

    def test_every_split_at_every_depth(self):
        for n in range(4, 9):
            for of_a in range(n + 1):
                for of_b in range(n + 1 - of_a):
                    for s in range(1, n):
                        right = A if of_a > s >= of_b else B if of_b > s >= of_a else None
                        cells = ballot(of_a, of_b, n - of_a - of_b)
                        self.assertEqual(vote(cells, s), right)
                        self.assertEqual(vote(cells[::-1], s), right)

    def test_all_none(self):
        self.assertIsNone(vote([None] * 4, 1))

    def test_ties(self):
        self.assertIsNone(vote([A, B, A, B], 1))
        self.assertIsNone(vote([A, B, None, None], 1))
        self.assertIsNone(vote([A, A, B, B, None, None], 2))
        self.assertIsNone(vote([A, A, A, A, B, B, B, B], 3))

    def test_shares_nothing_with_the_cells(self):
        cells = [list(A), list(A), None, list(B)]
        before = deepcopy(cells)
        told = vote(cells, 1)
        self.assertIsInstance(told, list)
        told[0] ^= 1
        self.assertEqual(cells, before)
