"""Points 5 and 6: words."""

import unittest
from copy import deepcopy
from itertools import combinations

from rotward.words import SECTOR, make_word, sector_at, weight
from tests.rules import curve_word, rule_weight, sector, sizes


class TestWeight(unittest.TestCase):
    def test_known_weights(self):
        self.assertEqual((weight(2, [0, 1], 0), weight(2, [0, 1], 1)), (3, 2))
        self.assertEqual((weight(3, [0, 1], 0), weight(3, [0, 1], 1)), (2, 3))

    def test_is_one_for_one_place(self):
        for x in range(8):
            for i in range(8):
                self.assertEqual(weight(x, [i], i), 1)

    def test_at_the_given_places(self):
        for n, k in sizes():
            for places in combinations(range(n), k):
                for i in places:
                    told = [weight(x, list(places), i) for x in places]
                    self.assertEqual(told, [1 if x == i else 0 for x in places])

    def test_at_all_places_by_the_rule(self):
        for k in range(1, 8):
            for places in combinations(range(8), k):
                for i in places:
                    for x in range(8):
                        told = weight(x, list(places), i)
                        self.assertEqual(told, rule_weight(x, places, i), (x, places, i))

    def test_in_any_order_of_the_places(self):
        self.assertEqual(weight(5, [6, 0, 3], 3), weight(5, [0, 3, 6], 3))

    def test_leaves_the_places_as_they_are(self):
        places = [4, 0, 2]
        weight(1, places, 0)
        self.assertEqual(places, [4, 0, 2])


class TestSectorAt(unittest.TestCase):
    def test_known_sectors(self):
        given = {0: [1] * 32, 1: [2] * 32}
        self.assertEqual([sector_at(x, given)[0] for x in range(4)], [1, 2, 7, 4])

    def test_each_byte_is_told_by_the_bytes_at_its_index(self):
        given = {0: list(range(32)), 1: [0] * 32}
        self.assertEqual(sector_at(3, given), [2 * byte for byte in range(32)])

    def test_one_sector_is_that_of_all_places(self):
        self.assertEqual([sector_at(x, {3: sector(1)}) for x in range(8)], [sector(1)] * 8)

    def test_any_k_sectors_in_both_orders_tell_the_word(self):
        for n, k in sizes():
            word = curve_word(n, k, k)
            for places in combinations(range(n), k):
                for order in (places, places[::-1]):
                    given = {i: word[i] for i in order}
                    self.assertEqual([sector_at(x, given) for x in range(n)], word, order)

    def test_mixed_orders_of_the_places(self):
        word = curve_word(8, 4, 1)
        for order in ([6, 1, 4, 2], [2, 6, 1, 4], [4, 6, 2, 1]):
            given = {i: word[i] for i in order}
            self.assertEqual([sector_at(x, given) for x in range(8)], word)

    def test_shares_nothing_with_what_is_given(self):
        given = {2: sector(1), 5: sector(2)}
        before = deepcopy(given)
        for x in range(8):
            sector_at(x, given)[0] ^= 1
        self.assertEqual(list(given.items()), list(before.items()))


class TestMakeWord(unittest.TestCase):
    def test_a_sector_has_32_bytes(self):
        self.assertEqual(SECTOR, 32)
        for made in make_word([sector(1), sector(2)], 5):
            self.assertIsInstance(made, list)
            self.assertEqual(len(made), 32)

    def test_begins_with_the_given_sectors(self):
        for n, k in sizes():
            parts = [sector(x) for x in range(k)]
            word = make_word(parts, n)
            self.assertIsInstance(word, list)
            self.assertEqual(len(word), n)
            self.assertEqual(word[:k], parts)

    def test_is_the_word_of_its_first_sectors(self):
        for n, k in sizes():
            word = curve_word(n, k, n)
            self.assertEqual(make_word(word[:k], n), word)

    def test_any_k_sectors_tell_each_other_one(self):
        for n, k in sizes():
            word = make_word([sector(x) for x in range(k)], n)
            for places in combinations(range(n), k):
                given = {i: word[i] for i in reversed(places)}
                self.assertEqual([sector_at(x, given) for x in range(n)], word)

    def test_shares_nothing_with_the_parts(self):
        parts = [sector(1)] * 2
        word = make_word(parts, 4)
        word[0][0] ^= 1
        self.assertEqual(parts, [sector(1)] * 2)
        self.assertEqual(word[1], sector(1))
        parts.append(sector(2))
        self.assertEqual(len(word), 4)
