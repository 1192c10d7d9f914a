"""Points 5, 6 and 7, and the interface's section atleast/taking.py."""

import unittest
from fractions import Fraction
from inspect import signature
from itertools import product
from math import gcd
from random import Random

from atleast.errors import NoRow, NoUnknown
from atleast.rows import holds
from atleast.taking import taken_out
from cases import GREAT, Case


def plain(numbers, least):
    greatest = gcd(*numbers, least) or 1
    return [number // greatest for number in numbers], least // greatest


def taken_out_by_steps(rows, unknown):
    taken = [plain(*row) for row in rows if row[0][unknown] == 0]
    for numbers, least in rows:
        for below, its_least in rows:
            if numbers[unknown] > 0 > below[unknown]:
                gain, loss = numbers[unknown], -below[unknown]
                summed = [loss * n + gain * b for n, b in zip(numbers, below)]
                taken.append(plain(summed, loss * least + gain * its_least))
    return taken


def some_value_meets(rows, unknown, others):
    """Whether the unknown has some value with which the rows are met, others having theirs."""
    above, below = [], []
    for numbers, least in rows:
        rest = least - sum(n * v for place, (n, v) in enumerate(zip(numbers, others)) if place != unknown)
        if numbers[unknown] == 0 and rest > 0:
            return False
        if numbers[unknown] != 0:
            (above if numbers[unknown] > 0 else below).append(Fraction(rest) / numbers[unknown])
    return not above or not below or max(above) <= min(below)


class TestTakenOut(Case):
    def taken(self, count, rows, unknown):
        answer = self.answer(taken_out, count, rows, unknown)
        self.assertIs(type(answer), list)
        for row in answer:
            self.is_row(row, count)
            self.assertEqual(row[0][unknown], 0)
        return answer

    def test_arguments_by_name(self):
        self.assertEqual(list(signature(taken_out).parameters), ["count", "rows", "unknown"])
        self.assertEqual(taken_out(count=1, rows=[([0], 2)], unknown=0), [([0], 1)])

    def test_example_of_point_7(self):
        self.assertEqual(self.taken(2, [([2, 1], 1), ([-3, 0], -6)], 0), [([0, 1], -3)])

    def test_order_of_rows(self):
        rows = [([-1, 1], 11), ([0, 1], 2), ([1, 1], 3), ([-1, 2], 5), ([0, 3], 7), ([1, 5], 1), ([0, -1], 0)]
        wanted = [([0, 1], 2), ([0, 3], 7), ([0, -1], 0), ([0, 1], 7), ([0, 3], 8), ([0, 1], 2), ([0, 7], 6)]
        self.assertEqual(self.taken(2, rows, 0), wanted)

    def test_order_where_rows_below_stand_first(self):
        rows = [([-1, 0, 1], 0), ([-1, 1, 0], 0), ([1, 0, 3], 0), ([1, 2, 0], 0)]
        wanted = [([0, 0, 1], 0), ([0, 1, 3], 0), ([0, 2, 1], 0), ([0, 1, 0], 0)]
        self.assertEqual(self.taken(3, rows, 0), wanted)

    def test_each_unknown(self):
        rows = [([1, 2, -3], 4), ([-2, 3, 1], 5), ([0, -1, 0], 6)]
        self.assertEqual(self.taken(3, rows, 0), [([0, -1, 0], 6), ([0, 7, -5], 13)])
        self.assertEqual(self.taken(3, rows, 1), [([1, 0, -3], 16), ([-2, 0, 1], 23)])
        self.assertEqual(self.taken(3, rows, 2), [([0, -1, 0], 6), ([-5, 11, 0], 19)])

    def test_least_two_weights(self):
        self.assertEqual(self.taken(2, [([4, 1], 0), ([-6, 0], 1)], 0), [([0, 3], 2)])
        self.assertEqual(self.taken(2, [([-6, 5], 7), ([4, 0], 1)], 0), [([0, 10], 17)])
        self.assertEqual(self.taken(1, [([4], 0), ([-6], 1)], 0), [([0], 1)])

    def test_both_rows_count_in_the_sum(self):
        self.assertEqual(self.taken(2, [([4, 1], 10), ([-6, 7], 100)], 0), [([0, 17], 230)])

    def test_plain_rows(self):
        self.assertEqual(self.taken(2, [([0, 6], 9)], 0), [([0, 2], 3)])
        self.assertEqual(self.taken(2, [([0, -6], -4)], 0), [([0, -3], -2)])
        self.assertEqual(self.taken(2, [([0, 5], 0)], 0), [([0, 1], 0)])
        self.assertEqual(self.taken(2, [([0, -5], 0)], 0), [([0, -1], 0)])
        self.assertEqual(self.taken(2, [([0, 6], 35)], 0), [([0, 6], 35)])
        self.assertEqual(self.taken(3, [([6, 0, 10], 15)], 1), [([6, 0, 10], 15)])
        self.assertEqual(self.taken(3, [([6, 0, 10], 16)], 1), [([3, 0, 5], 8)])

    def test_plain_sums(self):
        self.assertEqual(self.taken(2, [([1, 2], 3), ([-1, 4], 9)], 0), [([0, 1], 2)])
        self.assertEqual(self.taken(2, [([1, -2], -3), ([-1, -4], -9)], 0), [([0, -1], -2)])

    def test_noughts_alone(self):
        self.assertEqual(self.taken(2, [([0, 0], 0)], 0), [([0, 0], 0)])
        self.assertEqual(self.taken(2, [([0, 0], 5)], 1), [([0, 0], 1)])
        self.assertEqual(self.taken(2, [([0, 0], -5)], 1), [([0, 0], -1)])
        self.assertEqual(self.taken(1, [([2], 3), ([-2], -3)], 0), [([0], 0)])

    def test_sum_that_nothing_meets(self):
        self.assertEqual(self.taken(1, [([2], 3), ([-3], -4)], 0), [([0], 1)])

    def test_rows_on_one_side_leave_nothing(self):
        self.assertEqual(self.taken(2, [([1, 0], 3), ([2, 5], -4)], 0), [])
        self.assertEqual(self.taken(2, [([-1, 0], 3), ([-2, 5], -4)], 0), [])

    def test_no_rows(self):
        for unknown in range(3):
            self.assertEqual(self.taken(3, [], unknown), [])

    def test_rows_that_come_twice_stay_twice(self):
        rows = [([0, 1], 2), ([0, 2], 4), ([1, 1], 0), ([-1, 0], 0), ([1, 1], 0)]
        self.assertEqual(self.taken(2, rows, 0), [([0, 1], 2), ([0, 1], 2), ([0, 1], 0), ([0, 1], 0)])

    def test_forty_rows(self):
        chance = Random(40)
        for figures in (1, 200):
            most = 10 ** figures - 1
            rows = [([chance.randint(-most, most) for _ in range(3)], chance.randint(-most, most)) for _ in range(40)]
            for unknown in range(3):
                self.same(self.taken(3, rows, unknown), taken_out_by_steps(rows, unknown))

    def test_forty_rows_half_above_and_half_below(self):
        rows = [([(-1) ** place * (place + 1), place, 1], -place) for place in range(40)]
        self.assertEqual(len(self.taken(3, rows, 0)), 400)
        self.same(self.taken(3, rows, 0), taken_out_by_steps(rows, 0))

    def test_two_hundred_figures(self):
        rows = [([GREAT, 1], GREAT), ([-GREAT, 2], GREAT), ([0, GREAT], -GREAT)]
        self.assertEqual(self.taken(2, rows, 0), [([0, 1], -1), ([0, 1], GREAT // 3 * 2)])
        rows = [([GREAT, 0], 1), ([1 - GREAT, 1], 0)]
        self.assertEqual(self.taken(2, rows, 0), [([0, GREAT], GREAT - 1)])

    def test_small_rows_all_through(self):
        for numbers in product((-6, -1, 0, 4), (-2, 0, 3), (-4, 0, 6), (-3, 0, 2), (-1, 0, 2)):
            first, second, third, fourth, least = numbers
            rows = [([first, second], least), ([third, fourth], 2), ([fourth, first], -least)]
            for unknown in range(2):
                self.assertEqual(self.taken(2, rows, unknown), taken_out_by_steps(rows, unknown), rows)

    def test_met_just_where_some_value_does(self):
        chance = Random(7)
        told = {True: 0, False: 0}
        for _ in range(150):
            count = chance.randint(1, 3)
            rows = [([chance.randint(-3, 3) for _ in range(count)], chance.randint(-4, 3)) for _ in range(4)]
            unknown = chance.randrange(count)
            taken = self.taken(count, rows, unknown)
            for others in product((Fraction(-3, 2), Fraction(0), Fraction(1, 3), Fraction(2)), repeat=count):
                values = [(value.numerator, value.denominator) for value in others]
                wanted = some_value_meets(rows, unknown, others)
                self.assertIs(holds(count, taken, values), wanted)
                told[wanted] += 1
        self.assertGreater(min(told.values()), 100)

    def test_somewhat_beyond_the_bounds_is_not_refused(self):
        rows = [([10 ** 205, (-1) ** place, 0, 0, 1], 10 ** 205) for place in range(45)]
        self.same(self.taken(5, rows, 1), taken_out_by_steps(rows, 1))

    def test_the_answer_is_not_the_list_handed_in(self):
        rows = [([0, 1], 3), ([0, 0], 0)]
        answer = self.taken(2, rows, 0)
        answer[0][0].append(9)
        answer[1][0].append(9)
        answer.append(9)
        self.assertEqual(rows, [([0, 1], 3), ([0, 0], 0)])
        self.assertEqual(self.taken(2, rows, 0), [([0, 1], 3), ([0, 0], 0)])

    def test_wrong_rows(self):
        for rows in ([([1, 2, 3], 0)], [([1], 0)], [([], 0)], [([1, 2], 0), ([1], 0)], [([1, 2, 3], 0), ([1], 0)]):
            self.refused(NoRow, taken_out, 2, rows, 0)
            self.refused(NoRow, taken_out, 2, rows, 1)

    def test_unknown_that_is_not_there(self):
        for unknown in (-1, -2, -3, 2, 3, 99, -99, GREAT, -GREAT):
            self.refused(NoUnknown, taken_out, 2, [([1, 2], 0), ([-1, 3], 4)], unknown)
            self.refused(NoUnknown, taken_out, 2, [], unknown)
        for unknown in (-1, 0, 1):
            self.refused(NoUnknown, taken_out, 0, [], unknown)
            self.refused(NoUnknown, taken_out, 0, [([], 1)], unknown)

    def test_wrong_rows_go_first(self):
        for unknown in (-1, 2, 99):
            self.refused(NoRow, taken_out, 2, [([1, 2], 0), ([1], 0)], unknown)
        self.refused(NoRow, taken_out, 0, [([1], 0)], 0)


if __name__ == "__main__":
    unittest.main()
