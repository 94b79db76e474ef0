"""The field: products against polynomials, reckoned bit by bit."""

import unittest

from spreadnodes.field import inverse, plus, times
from spreadnodes.polynomials import rows_through, value_at
from tests.reference import PRODUCTS, power


class Field(unittest.TestCase):
    def test_every_product(self):
        every = list(range(256))
        for factor in every:
            self.assertEqual(times(factor, every), PRODUCTS[factor])

    def test_known_product(self):
        self.assertEqual(times(0x57, [0x83, 0x13, 0, 1]), [0xC1, 0xFE, 0, 0x57])

    def test_every_inverse(self):
        for byte in range(1, 256):
            self.assertEqual(times(byte, [inverse(byte)]), [1])

    def test_sum_is_exclusive_or(self):
        self.assertEqual(plus([0x0F, 0xFF, 0], [0x55, 0xFF, 7]), [0x5A, 0, 7])


class Polynomials(unittest.TestCase):
    def test_value_is_the_sum_of_powers(self):
        rows = [[7, 0], [200, 1], [3, 255]]
        for place in range(1, 10):
            due = [0, 0]
            for i, row in enumerate(rows):
                due = [a ^ PRODUCTS[power(place, i)][b] for a, b in zip(due, row)]
            self.assertEqual(value_at(place, rows), due)

    def test_rows_through_their_values(self):
        rows = [[i * 40 + 1, 255 - i, i] for i in range(6)]
        for count in range(1, 7):
            for first in range(1, 5):
                places = list(range(first, first + count))
                values = [value_at(place, rows[:count]) for place in places]
                self.assertEqual(rows_through(places, values), rows[:count])
                self.assertEqual(values, [value_at(place, rows[:count]) for place in places])


if __name__ == "__main__":
    unittest.main()
