"""Point 3: values in parts, least parts and common parts."""

import unittest
from fractions import Fraction
from math import gcd, lcm

from atleast.parts import common_divisor, common_one, in_parts, least_parts
from cases import GREAT


class TestCommonDivisor(unittest.TestCase):
    def test_small_numbers_of_any_sign(self):
        for first in range(-30, 31):
            for second in range(-30, 31):
                self.assertEqual(common_divisor(first, second), gcd(first, second), (first, second))

    def test_great_numbers(self):
        self.assertEqual(common_divisor(GREAT * 6, -GREAT * 10), GREAT * 2)
        self.assertEqual(common_divisor(GREAT, GREAT - 1), 1)


class TestLeastParts(unittest.TestCase):
    def test_told_examples(self):
        self.assertEqual(least_parts((-3, 2)), (-3, 2))
        self.assertEqual(least_parts((-6, 4)), (-3, 2))
        self.assertEqual(least_parts((8, 2)), (4, 1))

    def test_nought_is_in_whole_ones(self):
        self.assertEqual(least_parts((0, 1)), (0, 1))
        self.assertEqual(least_parts((0, 12)), (0, 1))

    def test_small_values(self):
        for parts in range(-20, 21):
            for one in range(1, 21):
                least = Fraction(parts, one)
                self.assertEqual(least_parts((parts, one)), (least.numerator, least.denominator))

    def test_great_values(self):
        self.assertEqual(least_parts((-GREAT * 3, GREAT * 7)), (-3, 7))

    def test_answers_a_tuple_of_whole_numbers(self):
        answer = least_parts((-6, 4))
        self.assertIs(type(answer), tuple)
        self.assertEqual([type(number) for number in answer], [int, int])


class TestCommonParts(unittest.TestCase):
    def test_no_values(self):
        self.assertEqual(common_one([]), 1)
        self.assertEqual(in_parts([], 1), [])

    def test_three_values(self):
        values = [(-3, 2), (5, 6), (2, 1)]
        self.assertEqual(common_one(values), 6)
        self.assertEqual(in_parts(values, 6), [-9, 5, 12])

    def test_common_one_is_the_least(self):
        for first in range(1, 13):
            for second in range(1, 13):
                self.assertEqual(common_one([(1, first), (-1, second)]), lcm(first, second))

    def test_values_stay_as_they_were(self):
        values = [(-3, 2), (10, 12)]
        in_parts(values, common_one(values))
        self.assertEqual(values, [(-3, 2), (10, 12)])


if __name__ == "__main__":
    unittest.main()
