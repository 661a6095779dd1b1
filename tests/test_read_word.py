"""Point 8: reading."""

import unittest
from copy import deepcopy
from itertools import combinations

from rotward.words import read_word
from tests.rules import (curve_word, damaged, depths, near_word, rule_read, sector, with_faults,
                         with_holes)


class TestReadWord(unittest.TestCase):
    def test_a_whole_word(self):
        for n, k, s in depths():
            word = curve_word(n, k, s)
            self.assertEqual(read_word(word, k, s), (word, k + s))

    def test_looks_past_cells_that_cannot_be_read(self):
        for n, k, s in depths():
            word = curve_word(n, k, s)
            for there in combinations(range(n), k + s):
                gone = [x for x in range(n) if x not in there]
                told = read_word(with_holes(word, gone), k, s)
                self.assertEqual(told, (word, there[-1] + 1))

    def test_with_none_before_and_between(self):
        word = curve_word(7, 3, 1)
        self.assertEqual(read_word(with_holes(word, (0,)), 3, 1), (word, 5))
        self.assertEqual(read_word(with_holes(word, (1, 2)), 3, 1), (word, 6))
        self.assertEqual(read_word(with_holes(word, (0, 3, 5)), 3, 1), (word, 7))
        self.assertEqual(read_word(with_holes(word, (4, 5, 6)), 3, 1), (word, 4))

    def test_does_not_notice_what_stands_behind(self):
        word = curve_word(7, 3, 1)
        cells = with_holes(with_faults(word, (4, 5)), (6,))
        self.assertEqual(read_word(cells, 3, 1), (word, 4))
        self.assertEqual(read_word(word[:4] + [sector(x) for x in range(3)], 3, 1), (word, 4))

    def test_goes_over_all_cells_if_the_first_ones_are_of_no_word(self):
        for n, k, s in depths():
            word = curve_word(n, k, s)
            for x in range(k + s):
                right = word if n - 1 >= k + s else None
                self.assertEqual(read_word(with_faults(word, (x,)), k, s), (right, n))

    def test_a_fault_behind_none(self):
        word = curve_word(8, 3, 1)
        cells = with_faults(word, (4,))
        self.assertEqual(read_word(with_holes(cells, (0,)), 3, 1), (word, 8))
        self.assertEqual(read_word(cells, 3, 1), (word, 4))
        self.assertEqual(read_word(with_holes(cells, (0, 1, 2, 3)), 3, 1), (None, 8))

    def test_the_first_ones_and_no_accepted_word(self):
        word = curve_word(7, 3, 1)
        self.assertEqual(read_word(with_faults(word, (0, 6)), 3, 1), (None, 7))
        self.assertEqual(read_word(with_faults(word, (3, 4)), 3, 1), (None, 7))
        other = near_word(word, 3, 2)
        self.assertEqual(read_word(other[:4] + word[4:], 3, 1), (other, 4))
        self.assertEqual(read_word(other[:1] + word[1:], 3, 1), (word, 7))

    def test_fewer_than_k_plus_s_can_be_read(self):
        for n, k, s in depths():
            word = curve_word(n, k, s)
            cells = with_holes(word, range(k + s - 1, n))
            self.assertEqual(read_word(cells, k, s), (None, n))
            self.assertEqual(read_word(cells[::-1], k, s), (None, n))
            self.assertEqual(read_word([None] * n, k, s), (None, n))

    def test_damaged_words_by_the_rule(self):
        for n, k, s in depths():
            for seed in range(24):
                cells = damaged(n, k, seed)
                self.assertEqual(read_word(cells, k, s), rule_read(cells, k, s), (n, k, s, seed))

    def test_is_a_pair(self):
        self.assertIsInstance(read_word(curve_word(5, 2, 1), 2, 1), tuple)
        self.assertIsInstance(read_word([None] * 5, 2, 1), tuple)

    def test_shares_nothing_with_the_cells(self):
        for faults in ((), (1,)):
            cells = with_holes(with_faults(curve_word(6, 2, 3), faults), (4,))
            before = deepcopy(cells)
            word, _ = read_word(cells, 2, 1)
            self.assertEqual(cells, before)
            for made in word:
                made[0] ^= 1
            word.append(None)
            self.assertEqual(cells, before)
