"""Point 7: the accepted word."""

import unittest
from copy import deepcopy
from itertools import combinations

from rotward.words import accepted
from tests.rules import (changed, curve_word, damaged, depths, near_word, rule_accepted, sector,
                         with_faults, with_holes)


class TestAccepted(unittest.TestCase):
    def test_a_whole_word(self):
        for n, k, s in depths():
            word = curve_word(n, k, s)
            self.assertEqual(accepted(word, k, s), word)

    def test_exactly_k_plus_s_equal_sectors_and_one_fewer(self):
        for n, k, s in depths():
            word = curve_word(n, k, s)
            for there in combinations(range(n), k + s):
                gone = [x for x in range(n) if x not in there]
                self.assertEqual(accepted(with_holes(word, gone), k, s), word)
                gone.append(there[0])
                self.assertIsNone(accepted(with_holes(word, gone), k, s))

    def test_k_plus_s_equal_sectors_and_s_others(self):
        word = curve_word(8, 3, 1)
        cells = with_holes(with_faults(word, (0, 6)), (4,))
        self.assertEqual(accepted(cells, 3, 2), word)
        self.assertIsNone(accepted(with_holes(cells, (7,)), 3, 2))

    def test_exactly_q_minus_s_equal_sectors_and_one_fewer(self):
        word = curve_word(8, 2, 1)
        for places in combinations(range(8), 2):
            self.assertEqual(accepted(with_faults(word, places), 2, 2), word)
        for places in combinations(range(8), 3):
            self.assertIsNone(accepted(with_faults(word, places), 2, 2))

    def test_up_to_s_changed_sectors_where_enough_are_left(self):
        for n, k, s in depths():
            word = curve_word(n, k, s)
            for many in range(n + 1):
                cells = with_faults(word, range(n - many, n))
                right = word if many <= s and n - many >= k + s else None
                if many <= n - k:
                    self.assertEqual(accepted(cells, k, s), right, (n, k, s, many))

    def test_q_counts_only_what_can_be_read(self):
        word = curve_word(8, 2, 1)
        cells = with_faults(word, (0, 3))
        self.assertIsNone(accepted(cells, 2, 1))
        self.assertIsNone(accepted(with_holes(cells, (1,)), 2, 1))
        self.assertEqual(accepted(with_holes(cells, (3,)), 2, 1), word)
        self.assertEqual(accepted(with_holes(cells, (0, 1, 2, 4)), 2, 1), word)
        self.assertIsNone(accepted(with_holes(cells, (0, 1, 2, 4, 5)), 2, 1))

    def test_words_that_share_k_minus_one_sectors(self):
        one = curve_word(8, 3, 1)
        other = near_word(one, 3, 2)
        shared = [x for x in range(8) if one[x] == other[x]]
        self.assertEqual(shared, [1, 2])
        cells = other[:4] + [other[4], one[5], one[6], one[7]]
        self.assertIsNone(accepted(cells, 3, 2))
        self.assertEqual(accepted(with_holes(cells, (5,)), 3, 2), other)
        self.assertEqual(accepted(with_holes(cells, (0,)), 3, 2), one)
        self.assertIsNone(accepted(with_holes(cells, (0, 7)), 3, 2))

    def test_no_readable_cell(self):
        for n, k, s in depths():
            self.assertIsNone(accepted([None] * n, k, s))

    def test_sectors_that_have_nothing_in_common(self):
        for n, k, s in depths():
            self.assertIsNone(accepted([sector(x) for x in range(n)], k, s))

    def test_the_word_is_told_where_cells_are_none_or_wrong(self):
        word = curve_word(7, 3, 4)
        for hole, fault in combinations(range(7), 2):
            for x, y in ((hole, fault), (fault, hole)):
                cells = with_holes(with_faults(word, (y,)), (x,))
                self.assertEqual(accepted(cells, 3, 1), word)

    def test_words_of_one_sector(self):
        a, b = sector(1), sector(2)
        self.assertEqual(accepted([a, b, a, None], 1, 1), [a] * 4)
        self.assertIsNone(accepted([a, b, None, None], 1, 1))
        self.assertIsNone(accepted([a, b, a, b], 1, 1))
        self.assertIsNone(accepted([a, b, a, changed(a)], 1, 1))

    def test_damaged_words_by_the_rule(self):
        told = []
        for n, k, s in depths():
            for seed in range(24):
                cells = damaged(n, k, seed)
                told.append(accepted(cells, k, s))
                self.assertEqual(told[-1], rule_accepted(cells, k, s), (n, k, s, seed))
        self.assertGreater(told.count(None), 200)
        self.assertGreater(len(told) - told.count(None), 200)

    def test_shares_nothing_with_the_cells(self):
        cells = with_holes(with_faults(curve_word(6, 2, 3), (1,)), (4,))
        before = deepcopy(cells)
        word = accepted(cells, 2, 1)
        self.assertEqual(cells, before)
        for made in word:
            made[0] ^= 1
        word.append(None)
        self.assertEqual(cells, before)
        self.assertIsNone(accepted([None] + cells[:2], 2, 1))
