"""Points 1 to 4, and the interface's section atleast/rows.py."""

import unittest
from fractions import Fraction
from inspect import signature
from itertools import product

from atleast.errors import NoRow, NoValues, NoWeights
from atleast.rows import holds, sum_of
from cases import GREAT, Case


def holds_by_fractions(rows, values):
    found = [Fraction(parts, one) for parts, one in values]
    return all(sum(n * v for n, v in zip(numbers, found)) >= least for numbers, least in rows)


def sum_by_steps(count, rows, weights):
    numbers, least = [0] * count, 0
    for (row, its_least), weight in zip(rows, weights):
        for unknown in range(count):
            numbers[unknown] += weight * row[unknown]
        least += weight * its_least
    return numbers, least


class TestInterface(unittest.TestCase):
    def test_arguments_by_name(self):
        self.assertEqual(list(signature(holds).parameters), ["count", "rows", "values"])
        self.assertEqual(list(signature(sum_of).parameters), ["count", "rows", "weights"])
        self.assertIs(holds(count=1, rows=[([1], 2)], values=[(2, 1)]), True)
        self.assertEqual(sum_of(count=1, rows=[([1], 2)], weights=[3]), ([3], 6))


class TestHolds(Case):
    def held(self, count, rows, values):
        answer = self.answer(holds, count, rows, values)
        self.assertIs(type(answer), bool)
        return answer

    def test_example_of_point_2(self):
        rows = [([2, -1], 3)]
        self.assertIs(self.held(2, rows, [(2, 1), (1, 1)]), True)
        self.assertIs(self.held(2, rows, [(3, 1), (1, 1)]), True)
        self.assertIs(self.held(2, rows, [(2, 1), (2, 1)]), False)

    def test_value_below_nought_in_parts(self):
        self.assertIs(self.held(1, [([2], -3)], [(-3, 2)]), True)
        self.assertIs(self.held(1, [([2], -2)], [(-3, 2)]), False)
        self.assertIs(self.held(1, [([-2], 3)], [(-3, 2)]), True)
        self.assertIs(self.held(1, [([-2], 4)], [(-3, 2)]), False)

    def test_just_the_least_number_and_one_part_short(self):
        rows = [([3, -2, 5], 4)]
        self.assertIs(self.held(3, rows, [(1, 2), (-5, 4), (0, 1)]), True)
        self.assertIs(self.held(3, rows, [(1, 2), (-5, 4), (-1, 1000)]), False)
        self.assertIs(self.held(1, [([1], 1)], [(6, 6)]), True)
        self.assertIs(self.held(1, [([1], 1)], [(5, 6)]), False)

    def test_values_not_in_least_parts(self):
        rows = [([4, 6], 7)]
        self.assertIs(self.held(2, rows, [(10, 20), (50, 60)]), True)
        self.assertIs(self.held(2, rows, [(10, 20), (49, 60)]), False)

    def test_every_row_must_be_met(self):
        rows = [([1, 1], 2), ([1, -1], 0), ([-1, 0], -3)]
        self.assertIs(self.held(2, rows, [(1, 1), (1, 1)]), True)
        self.assertIs(self.held(2, rows, [(1, 2), (1, 1)]), False)
        self.assertIs(self.held(2, rows, [(1, 1), (3, 2)]), False)
        self.assertIs(self.held(2, rows, [(7, 2), (1, 1)]), False)

    def test_no_unknown(self):
        self.assertIs(self.held(0, [], []), True)
        self.assertIs(self.held(0, [([], 0), ([], -1)], []), True)
        self.assertIs(self.held(0, [([], 1)], []), False)

    def test_no_rows(self):
        self.assertIs(self.held(2, [], [(-3, 2), (0, 7)]), True)

    def test_noughts_alone(self):
        self.assertIs(self.held(2, [([0, 0], 0)], [(5, 1), (-9, 4)]), True)
        self.assertIs(self.held(2, [([0, 0], 1)], [(5, 1), (-9, 4)]), False)

    def test_small_rows_and_values_all_through(self):
        values = [(-2, 1), (-3, 2), (-2, 4), (0, 3), (1, 3), (4, 3), (2, 1)]
        for first, second, least in product((-3, -1, 0, 2), (-2, 0, 1, 3), (-4, -1, 0, 1, 3)):
            rows = [([first, second], least), ([second, -first], least - 2)]
            for pair in product(values, values):
                self.assertIs(holds(2, rows, list(pair)), holds_by_fractions(rows, pair), (rows, pair))

    def test_two_hundred_figures(self):
        rows = [([GREAT, -GREAT], GREAT), ([1, 1], -GREAT)]
        self.assertIs(self.held(2, rows, [(GREAT, GREAT - 1), (1, GREAT - 1)]), True)
        self.assertIs(self.held(2, rows, [(GREAT, GREAT - 1), (2, GREAT - 1)]), False)
        self.assertIs(self.held(1, [([1], GREAT)], [(GREAT * GREAT, GREAT)]), True)
        self.assertIs(self.held(1, [([1], GREAT)], [(GREAT * GREAT - 1, GREAT)]), False)

    def test_forty_rows(self):
        rows = [([1, place, -place], -place) for place in range(40)]
        self.assertIs(self.held(3, rows, [(0, 1), (1, 3), (4, 3)]), True)
        self.assertIs(self.held(3, rows, [(0, 1), (1, 3), (5, 3)]), False)
        self.assertIs(self.held(3, rows[:-1] + [([0, 0, 1], 2)], [(0, 1), (1, 3), (4, 3)]), False)

    def test_somewhat_beyond_the_bounds_is_not_refused(self):
        rows = [([10 ** 205] * 5, -1)] * 45
        self.assertIs(self.held(5, rows, [(0, 10 ** 205)] * 5), True)

    def test_wrong_rows(self):
        for rows in ([([1, 2, 3], 0)], [([1], 0)], [([], 0)], [([1, 2], 0), ([1], 0)], [([1], 0), ([1, 2], 0)]):
            self.refused(NoRow, holds, 2, rows, [(1, 1), (1, 1)])
        self.refused(NoRow, holds, 0, [([0], 0)], [])

    def test_lengths_that_even_out_are_wrong_rows_still(self):
        self.refused(NoRow, holds, 2, [([1, 2, 3], 0), ([1], 0)], [(1, 1), (1, 1)])

    def test_too_few_and_too_many_values(self):
        rows = [([1, 2], 0)]
        for values in ([], [(1, 1)], [(1, 1), (1, 1), (1, 1)]):
            self.refused(NoValues, holds, 2, rows, values)
            self.refused(NoValues, holds, 2, [], values)
        self.refused(NoValues, holds, 0, [], [(1, 1)])

    def test_parts_of_less_than_one(self):
        for wrong in ((1, 0), (0, 0), (1, -1), (-3, -2), (1, -GREAT)):
            self.refused(NoValues, holds, 2, [([1, 2], 0)], [wrong, (1, 1)])
            self.refused(NoValues, holds, 2, [([1, 2], 0)], [(1, 1), wrong])
            self.refused(NoValues, holds, 1, [], [wrong])

    def test_wrong_values_are_refused_where_rows_are_not_met_or_take_them_no_times(self):
        self.refused(NoValues, holds, 2, [([1, 0], 5)], [(1, 1), (1, 0)])
        self.refused(NoValues, holds, 1, [([0], 1)], [(1, 0)])

    def test_wrong_rows_go_first(self):
        self.refused(NoRow, holds, 2, [([1], 0)], [(1, 1)])
        self.refused(NoRow, holds, 2, [([1, 2], 0), ([1], 0)], [(1, 0), (1, 1)])
        self.refused(NoRow, holds, 1, [([1], 9), ([1, 1], 0)], [(1, 0)])


class TestSumOf(Case):
    def summed(self, count, rows, weights):
        answer = self.answer(sum_of, count, rows, weights)
        self.is_row(answer, count)
        return answer

    def test_rows_of_two_unknowns(self):
        rows = [([2, 1], 1), ([-3, 0], -6)]
        self.assertEqual(self.summed(2, rows, [3, 2]), ([0, 3], -9))
        self.assertEqual(self.summed(2, rows, [1, 0]), ([2, 1], 1))
        self.assertEqual(self.summed(2, rows, [0, 1]), ([-3, 0], -6))

    def test_the_sum_is_not_made_plain(self):
        self.assertEqual(self.summed(1, [([2], 4)], [3]), ([6], 12))

    def test_weights_all_nought(self):
        self.assertEqual(self.summed(3, [([1, -2, 3], 4), ([5, 6, -7], -8)], [0, 0]), ([0, 0, 0], 0))

    def test_no_unknown(self):
        self.assertEqual(self.summed(0, [([], 2), ([], -5)], [4, 1]), ([], 3))
        self.assertEqual(self.summed(0, [], []), ([], 0))

    def test_no_rows(self):
        self.assertEqual(self.summed(3, [], []), ([0, 0, 0], 0))

    def test_small_weights_all_through(self):
        rows = [([2, -1, 0], 3), ([-4, 0, 5], -7), ([0, 6, -1], 0)]
        for weights in product(range(4), repeat=3):
            self.assertEqual(self.summed(3, rows, list(weights)), sum_by_steps(3, rows, weights))

    def test_what_meets_the_rows_meets_the_sum(self):
        rows = [([2, -1], 3), ([-1, 1], -1), ([1, 1], 0)]
        for pair in product([(-1, 1), (1, 2), (3, 2), (2, 1), (5, 2), (6, 2)], repeat=2):
            if holds(2, rows, list(pair)):
                for weights in product(range(3), repeat=3):
                    self.assertIs(holds(2, [sum_of(2, rows, list(weights))], list(pair)), True)

    def test_sum_that_nothing_meets(self):
        self.assertEqual(self.summed(1, [([2], 3), ([-3], -4)], [3, 2]), ([0], 1))

    def test_two_hundred_figures(self):
        rows = [([GREAT, -GREAT], -GREAT), ([-GREAT, 1], GREAT)]
        wanted = ([0, -GREAT * GREAT + GREAT], 0)
        self.assertEqual(self.summed(2, rows, [GREAT, GREAT]), wanted)

    def test_forty_rows(self):
        rows = [([place, -place, 1], place * place) for place in range(40)]
        weights = [place % 7 for place in range(40)]
        self.assertEqual(self.summed(3, rows, weights), sum_by_steps(3, rows, weights))

    def test_somewhat_beyond_the_bounds_is_not_refused(self):
        rows = [([10 ** 205] * 5, -1)] * 45
        self.assertEqual(self.summed(5, rows, [10 ** 205] * 45), ([45 * 10 ** 410] * 5, -45 * 10 ** 205))

    def test_the_answer_is_not_the_list_handed_in(self):
        rows = [([1, 2], 3)]
        answer = self.summed(2, rows, [1])
        answer[0].append(9)
        self.assertEqual(rows, [([1, 2], 3)])
        self.assertEqual(self.summed(2, rows, [1]), ([1, 2], 3))

    def test_wrong_rows(self):
        for rows in ([([1, 2, 3], 0)], [([1], 0)], [([], 0)]):
            self.refused(NoRow, sum_of, 2, rows, [1])
        for rows in ([([1, 2], 0), ([1], 0)], [([1, 2, 3], 0), ([1], 0)]):
            self.refused(NoRow, sum_of, 2, rows, [1, 1])
            self.refused(NoRow, sum_of, 2, rows, [0, 0])
        self.refused(NoRow, sum_of, 0, [([0], 0)], [1])

    def test_too_few_and_too_many_weights(self):
        rows = [([1, 2], 0), ([3, 4], 5)]
        for weights in ([], [1], [1, 1, 1]):
            self.refused(NoWeights, sum_of, 2, rows, weights)
        self.refused(NoWeights, sum_of, 2, [], [0])
        self.refused(NoWeights, sum_of, 0, [([], 0)], [])

    def test_weight_below_nought(self):
        rows = [([1, 2], 0), ([3, 4], 5)]
        for weights in ([-1, 0], [0, -1], [5, -GREAT], [-1, -1]):
            self.refused(NoWeights, sum_of, 2, rows, weights)
        self.refused(NoWeights, sum_of, 0, [([], 0)], [-1])

    def test_wrong_rows_go_first(self):
        self.refused(NoRow, sum_of, 2, [([1], 0)], [])
        self.refused(NoRow, sum_of, 2, [([1, 2], 0), ([1, 2, 3], 0)], [-1, 1])


if __name__ == "__main__":
    unittest.main()
