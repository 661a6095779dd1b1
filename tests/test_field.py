"""Point 4: the field of bytes."""

import unittest

from rotward.field import double, inverse, product, products
from tests.rules import PRODUCTS, rule_double


class TestDouble(unittest.TestCase):
    def test_at_the_edges(self):
        told = [double(a) for a in (0, 1, 127, 128, 129, 254, 255)]
        self.assertEqual(told, [0, 2, 254, 29, 31, 225, 227])

    def test_of_all_bytes(self):
        self.assertEqual([double(a) for a in range(256)], [rule_double(a) for a in range(256)])

    def test_is_the_product_with_two(self):
        for a in range(256):
            self.assertEqual(double(a), product(a, 2))


class TestProduct(unittest.TestCase):
    def test_known_products(self):
        self.assertEqual(product(2, 128), 29)
        self.assertEqual(product(3, 7), 9)
        self.assertEqual(product(142, 2), 1)
        self.assertEqual(product(255, 255), 226)

    def test_of_all_bytes_step_by_step_and_in_both_orders(self):
        for a in range(256):
            self.assertEqual([product(a, b) for b in range(256)], PRODUCTS[a])
            self.assertEqual([product(b, a) for b in range(256)], PRODUCTS[a])

    def test_with_zero_and_one(self):
        for a in range(256):
            self.assertEqual((product(a, 0), product(0, a)), (0, 0))
            self.assertEqual((product(a, 1), product(1, a)), (a, a))

    def test_through_sums(self):
        for a in range(0, 256, 5):
            for b in range(0, 256, 7):
                for c in (0, 1, 2, 77, 128, 255):
                    self.assertEqual(product(a ^ b, c), product(a, c) ^ product(b, c))
                    self.assertEqual(product(c, a ^ b), product(c, a) ^ product(c, b))

    def test_of_products(self):
        for a in range(0, 256, 11):
            for b in range(0, 256, 13):
                for c in (3, 90, 128, 255):
                    self.assertEqual(product(product(a, b), c), product(a, product(b, c)))

    def test_a_row_of_products(self):
        for a in range(256):
            self.assertEqual(products(a), PRODUCTS[a])


class TestInverse(unittest.TestCase):
    def test_known_inverses(self):
        self.assertEqual([inverse(a) for a in (1, 2, 142, 255)], [1, 142, 2, 253])

    def test_of_all_bytes_but_zero(self):
        for a in range(1, 256):
            self.assertIn(inverse(a), range(256))
            self.assertEqual(product(a, inverse(a)), 1)
            self.assertEqual(inverse(inverse(a)), a)
