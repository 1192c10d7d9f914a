"""Points 5 and 8 to 11, and the interface's section atleast/asking.py."""

import unittest
from fractions import Fraction
from inspect import signature
from itertools import product
from math import gcd
from random import Random

from atleast.asking import bounds, met, spare
from atleast.errors import NoRow, NoUnknown, NoWay
from atleast.rows import holds, sum_of
from cases import GREAT, Case


def single(count, unknown, number):
    return [number if other == unknown else 0 for other in range(count)]


def random_rows(chance, count, how_many):
    most = chance.choice((1, 2, 5, 9))
    far = chance.choice((0, 1, 4, 9))
    lower = chance.choice((0, 0, far))
    rows = []
    for _ in range(how_many):
        numbers = [chance.choice((0, 1, 1)) * chance.randint(-most, most) for _ in range(count)]
        rows.append((numbers, chance.randint(-far, far) - lower))
    return rows


def great_rows(chance, count, how_many, sign):
    """Where the least numbers are all below nought, noughts meet the rows; where they are above, hardly anything."""
    return [([chance.randint(-GREAT, GREAT) for _ in range(count)], sign * chance.randint(1, GREAT))
            for _ in range(how_many)]


def great_rows_that_nothing_meets(chance):
    rows = great_rows(chance, 3, 11, -1)
    numbers, least = rows[5]
    return rows + [([-number for number in numbers], 1 - least)]


class AskingCase(Case):
    """Every answer brings what shows it, so each is checked here by `holds` and `sum_of` alone."""

    def are_values(self, values, count):
        self.assertIs(type(values), list)
        self.assertEqual(len(values), count)
        for value in values:
            self.is_value(value)

    def is_value(self, value):
        self.is_tuple(value, 2)
        self.is_whole(value[0])
        self.is_whole(value[1])
        self.assertGreaterEqual(value[1], 1)
        self.assertEqual(gcd(*value), 1, "not in its least parts")

    def summed(self, count, rows, weights):
        self.is_numbers(weights, len(rows))
        return sum_of(count, rows, weights)

    def shows_that_nothing_meets(self, count, rows, weights):
        numbers, least = self.summed(count, rows, weights)
        self.assertEqual(numbers, [0] * count, rows)
        self.assertGreaterEqual(least, 1, rows)

    def met(self, count, rows):
        answer = self.answer(met, count, rows)
        self.is_tuple(answer, 2)
        if answer[0] == "met":
            self.are_values(answer[1], count)
            self.assertIs(holds(count, rows, answer[1]), True, rows)
        else:
            self.assertEqual(answer[0], "not")
            self.shows_that_nothing_meets(count, rows, answer[1])
        return answer[0]

    def is_bound(self, count, rows, unknown, sign, bound):
        """Shown by the weights, and had by the unknown in some values that meet the rows."""
        self.is_tuple(bound, 2)
        (parts, one), weights = bound
        self.is_value((parts, one))
        numbers, least = self.summed(count, rows, weights)
        self.assertGreater(numbers[unknown] * sign, 0)
        self.assertEqual(numbers, single(count, unknown, numbers[unknown]))
        self.assertEqual(least * one, numbers[unknown] * parts)
        at_most = (single(count, unknown, -sign * one), -sign * parts)
        self.assertEqual(self.met(count, rows + [at_most]), "met")

    def has_no_bound(self, count, rows, unknown, sign):
        """There is a way to go on for ever, from any values that meet the rows, without leaving them."""
        onwards = [(numbers, 0) for numbers, least in rows] + [(single(count, unknown, -sign), 1)]
        self.assertEqual(self.met(count, onwards), "met")

    def bounds(self, count, rows, unknown):
        answer = self.answer(bounds, count, rows, unknown)
        self.is_tuple(answer, 2)
        told = []
        for sign, bound in zip((1, -1), answer):
            if bound is None:
                self.has_no_bound(count, rows, unknown, sign)
                told.append(None)
            else:
                self.is_bound(count, rows, unknown, sign, bound)
                told.append(bound[0])
        self.assertEqual(self.met(count, rows), "met")
        return tuple(told)

    def spare(self, count, rows, place):
        answer = self.answer(spare, count, rows, place)
        others = rows[:place] + rows[place + 1:]
        numbers, least = rows[place]
        if answer[0] == "needed":
            self.is_tuple(answer, 2)
            self.are_values(answer[1], count)
            self.assertIs(holds(count, others, answer[1]), True)
            self.assertIs(holds(count, [rows[place]], answer[1]), False)
            return "needed"
        self.is_tuple(answer, 3)
        self.assertEqual(answer[0], "spare")
        often, weights = answer[1:]
        self.is_whole(often)
        self.is_numbers(weights, len(rows))
        self.assertEqual(weights[place], 0)
        if often == 0:
            self.shows_that_nothing_meets(count, rows, weights)
            return "spare, nothing meets the others"
        self.assertGreater(often, 0)
        found, its_least = self.summed(count, rows, weights)
        self.assertEqual(found, [number * often for number in numbers])
        self.assertGreaterEqual(its_least, least * often)
        return "spare"


class TestInterface(unittest.TestCase):
    def test_arguments_by_name(self):
        self.assertEqual(list(signature(met).parameters), ["count", "rows"])
        self.assertEqual(list(signature(bounds).parameters), ["count", "rows", "unknown"])
        self.assertEqual(list(signature(spare).parameters), ["count", "rows", "place"])
        self.assertEqual(met(count=0, rows=[]), ("met", []))
        self.assertEqual(bounds(count=1, rows=[], unknown=0), (None, None))
        self.assertEqual(spare(count=0, rows=[([], 1)], place=0), ("needed", []))


class TestMet(AskingCase):
    def test_no_unknown(self):
        self.assertEqual(self.answer(met, 0, []), ("met", []))
        self.assertEqual(self.answer(met, 0, [([], 0), ([], -4)]), ("met", []))
        self.assertEqual(self.met(0, [([], 1)]), "not")
        self.assertEqual(self.met(0, [([], 0), ([], -4), ([], 3)]), "not")

    def test_no_rows(self):
        for count in range(4):
            self.assertEqual(self.met(count, []), "met")

    def test_noughts_alone(self):
        for count in range(1, 4):
            for least, wanted in ((0, "met"), (-1, "met"), (1, "not"), (9, "not")):
                self.assertEqual(self.met(count, [([0] * count, least)]), wanted)
                self.assertEqual(self.met(count, [([1] * count, 5), ([0] * count, least)]), wanted)

    def test_one_unknown(self):
        self.assertEqual(self.met(1, [([2], 3), ([-1], -4), ([1], 1)]), "met")
        self.assertEqual(self.met(1, [([2], 3), ([-2], -3)]), "met")
        self.assertEqual(self.met(1, [([2], 3), ([-2], -2)]), "not")
        self.assertEqual(self.met(1, [([3], 4), ([-2], -3)]), "met")
        self.assertEqual(self.met(1, [([3], 4), ([-4], -5)]), "not")
        self.assertEqual(self.met(1, [([-1], 5)]), "met")

    def test_just_one_value_in_parts(self):
        self.assertEqual(self.answer(met, 1, [([2], -3), ([-4], 6)]), ("met", [(-3, 2)]))
        self.assertEqual(self.answer(met, 1, [([6], 4), ([-3], -2)]), ("met", [(2, 3)]))
        self.assertEqual(self.answer(met, 1, [([6], 0), ([-4], 0)]), ("met", [(0, 1)]))

    def test_two_unknowns(self):
        around = [([1, 0], 1), ([0, 1], 1), ([-1, -1], -2)]
        self.assertEqual(self.answer(met, 2, around), ("met", [(1, 1), (1, 1)]))
        self.assertEqual(self.met(2, around + [([1, -1], 0)]), "met")
        self.assertEqual(self.met(2, around + [([1, -1], 1)]), "not")
        self.assertEqual(self.met(2, [([1, 1], 1), ([-1, -1], 0)]), "not")
        self.assertEqual(self.met(2, [([1, 1], 1), ([-1, -1], -1)]), "met")

    def test_three_unknowns(self):
        around = [([1, -1, 0], 1), ([0, 1, -1], 1), ([-1, 0, 1], -2)]
        self.assertEqual(self.met(3, around), "met")
        self.assertEqual(self.met(3, around[:2] + [([-1, 0, 1], -1)]), "not")
        self.assertEqual(self.met(3, [([2, 3, 5], 7), ([-2, -3, -5], -7), ([1, 1, 1], 100), ([1, 0, 0], 0)]), "met")

    def test_a_sum_of_all_four_rows_is_wanted(self):
        rows = [([1, 0, 0], 1), ([0, 1, 0], 1), ([0, 0, 1], 1), ([-2, -3, -5], -9)]
        self.assertEqual(self.met(3, rows), "not")
        for place in range(4):
            self.assertEqual(self.met(3, rows[:place] + rows[place + 1:]), "met")

    def test_an_unknown_of_which_no_row_speaks(self):
        self.assertEqual(self.met(3, [([0, 2, 0], 3), ([0, -2, 0], -3)]), "met")
        self.assertEqual(self.met(3, [([0, 2, 0], 3), ([0, -2, 0], -2)]), "not")

    def test_small_rows_all_through(self):
        told = {"met": 0, "not": 0}
        for numbers in product((-1, 0, 2), repeat=4):
            for leasts in product((-1, 1, 3), repeat=3):
                rows = [([numbers[0], numbers[1]], leasts[0]), ([numbers[2], numbers[3]], leasts[1]),
                        ([-numbers[1], -numbers[2]], leasts[2])]
                told[self.met(2, rows)] += 1
        self.assertGreater(min(told.values()), 300)

    def test_many_rows(self):
        chance = Random(1)
        told = {"met": 0, "not": 0}
        for _ in range(1500):
            count = chance.randint(0, 3)
            told[self.met(count, random_rows(chance, count, chance.randint(0, 12)))] += 1
        self.assertGreater(min(told.values()), 300)

    def test_twelve_rows_of_two_hundred_figures(self):
        chance = Random(2)
        told = {"met": 0, "not": 0}
        for _ in range(10):
            self.assertEqual(self.met(3, great_rows(chance, 3, 12, -1)), "met")
            self.assertEqual(self.met(3, great_rows_that_nothing_meets(chance)), "not")
            told[self.met(3, great_rows(chance, 3, 12, 1))] += 1
        self.assertGreater(told["not"], 3)

    def test_great_numbers_that_just_do_or_just_do_not(self):
        rows = [([GREAT, 1], GREAT), ([-GREAT, 1 - GREAT], -GREAT), ([0, 1], 0)]
        self.assertEqual(self.met(2, rows), "met")
        rows = [([GREAT, 0], 1), ([1 - GREAT, 0], -1), ([0, 1], 0)]
        self.assertEqual(self.met(2, rows), "met")
        rows = [([GREAT - 1, 0], 1), ([-GREAT, 0], -1), ([0, 1], 0)]
        self.assertEqual(self.met(2, rows), "not")

    def test_somewhat_beyond_the_bounds_is_not_refused(self):
        chance = Random(3)
        for sign in (1, -1):
            self.met(5, [([10 ** 5 * n for n in numbers], least) for numbers, least in great_rows(chance, 5, 16, sign)])

    def test_nothing_is_kept_from_one_call_to_the_next(self):
        for rows in ([([2], 3), ([-1], -4)], [([2], 3), ([-1], -1)]):
            first = met(1, rows)
            kept = (first[0], list(first[1]))
            first[1].append(9)
            met(2, [([1, 1], 1)])
            self.assertEqual(met(1, rows), kept)

    def test_wrong_rows(self):
        for rows in ([([1, 2, 3], 0)], [([1], 0)], [([], 0)], [([1, 2], 0), ([1], 0)], [([1, 2, 3], 0), ([1], 0)],
                     [([0, 0], 1), ([1], 0)]):
            self.refused(NoRow, met, 2, rows)
        self.refused(NoRow, met, 0, [([0], 0)])
        self.refused(NoRow, met, 1, [([], 1)])


class TestBounds(AskingCase):
    def test_example_of_point_10(self):
        rows = [([2], 3), ([-1], -4), ([1], 1)]
        self.assertEqual(self.bounds(1, rows, 0), ((3, 2), (4, 1)))
        # Here no other weights show it, but for so many times these.
        (_, least), (_, greatest) = bounds(1, rows, 0)
        self.assertEqual(least, [least[0], 0, 0])
        self.assertEqual(greatest, [0, greatest[1], 0])

    def test_none_where_there_is_no_end(self):
        self.assertEqual(self.bounds(1, [], 0), (None, None))
        self.assertEqual(self.bounds(1, [([0], -3)], 0), (None, None))
        self.assertEqual(self.bounds(1, [([3], 5), ([2], 3)], 0), ((5, 3), None))
        self.assertEqual(self.bounds(1, [([-3], 5), ([-2], 3)], 0), (None, (-5, 3)))
        self.assertEqual(self.bounds(3, [([0, 1, 0], 2), ([0, -1, 0], -9)], 0), (None, None))
        self.assertEqual(self.bounds(3, [([0, 1, 0], 2), ([0, -1, 0], -9)], 1), ((2, 1), (9, 1)))
        self.assertEqual(self.bounds(3, [([0, 1, 0], 2), ([0, -1, 0], -9)], 2), (None, None))
        self.assertEqual(self.bounds(2, [([1, 1], 0), ([-1, -1], 0)], 1), (None, None))

    def test_nought_and_values_in_least_parts(self):
        self.assertEqual(self.bounds(1, [([4], 0), ([-6], -4)], 0), ((0, 1), (2, 3)))
        self.assertEqual(self.bounds(1, [([4], -6), ([-6], 9)], 0), ((-3, 2), (-3, 2)))
        self.assertEqual(self.bounds(1, [([4], -8), ([-5], -20)], 0), ((-2, 1), (4, 1)))

    def test_bounded_only_through_the_others(self):
        rows = [([1, 1], 3), ([-1, 2], 0), ([0, -1], -5)]
        self.assertEqual(self.bounds(2, rows, 0), ((-2, 1), (10, 1)))
        self.assertEqual(self.bounds(2, rows, 1), ((1, 1), (5, 1)))
        chain = [([1, -2, 0], 1), ([0, 1, -3], 1), ([0, 0, 2], 1), ([-1, 0, 0], -20)]
        self.assertEqual(self.bounds(3, chain, 0), ((6, 1), (20, 1)))
        self.assertEqual(self.bounds(3, chain, 1), ((5, 2), (19, 2)))
        self.assertEqual(self.bounds(3, chain, 2), ((1, 2), (17, 6)))

    def test_just_one_point(self):
        rows = [([1, 0], 1), ([0, 1], 2), ([-1, -1], -3), ([0, 0], 0)]
        self.assertEqual(self.bounds(2, rows, 0), ((1, 1), (1, 1)))
        self.assertEqual(self.bounds(2, rows, 1), ((2, 1), (2, 1)))

    def test_many_rows(self):
        chance = Random(4)
        told = {"whole": 0, "parts": 0, "none": 0, "no way": 0}
        for _ in range(700):
            count = chance.randint(1, 3)
            rows = random_rows(chance, count, chance.randint(0, 12))
            unknown = chance.randrange(count)
            if self.met(count, rows) == "not":
                self.refused(NoWay, bounds, count, rows, unknown)
                told["no way"] += 1
                continue
            for value in self.bounds(count, rows, unknown):
                told["none" if value is None else "whole" if value[1] == 1 else "parts"] += 1
        self.assertGreater(min(told.values()), 100)

    def test_twelve_rows_of_two_hundred_figures(self):
        chance = Random(5)
        for _ in range(5):
            rows = great_rows(chance, 3, 12, -1)
            for unknown in range(3):
                least, greatest = self.bounds(3, rows, unknown)
                if least is not None and greatest is not None:
                    self.assertLess(Fraction(*least), Fraction(*greatest))
            self.refused(NoWay, bounds, 3, great_rows_that_nothing_meets(chance), 0)

    def test_two_hundred_figures(self):
        rows = [([GREAT], 1 - GREAT), ([1 - GREAT], -GREAT)]
        self.assertEqual(self.bounds(1, rows, 0), ((1 - GREAT, GREAT), (GREAT, GREAT - 1)))

    def test_somewhat_beyond_the_bounds_is_not_refused(self):
        rows = great_rows(Random(6), 5, 16, -1)
        self.bounds(5, rows, 4)

    def test_nothing_is_kept_from_one_call_to_the_next(self):
        rows = [([2], 3), ([-1], -4)]
        first = bounds(1, rows, 0)
        first[0][1].append(9)
        bounds(1, [([1], 1)], 0)
        self.assertEqual(self.bounds(1, rows, 0), ((3, 2), (4, 1)))

    def test_wrong_rows(self):
        for rows in ([([1, 2, 3], 0)], [([1], 0)], [([], 0)], [([1, 2], 0), ([1], 0)], [([1, 2, 3], 0), ([1], 0)]):
            self.refused(NoRow, bounds, 2, rows, 0)

    def test_unknown_that_is_not_there(self):
        for unknown in (-1, -2, -3, 2, 3, 99, -99, GREAT, -GREAT):
            self.refused(NoUnknown, bounds, 2, [([1, 2], 0), ([-1, 3], 4)], unknown)
            self.refused(NoUnknown, bounds, 2, [], unknown)
        for unknown in (-1, 0, 1):
            self.refused(NoUnknown, bounds, 0, [], unknown)

    def test_rows_that_can_not_be_met(self):
        for count in range(1, 4):
            for unknown in range(count):
                self.refused(NoWay, bounds, count, [([0] * count, 1)], unknown)
                rows = [(single(count, 0, 2), 3), (single(count, 0, -2), -2)]
                self.refused(NoWay, bounds, count, rows, unknown)
                self.refused(NoWay, bounds, count, [([1] * count, 0)] + rows, unknown)

    def test_order_of_refusals(self):
        self.refused(NoRow, bounds, 2, [([0, 0], 1), ([1], 0)], 2)
        self.refused(NoRow, bounds, 2, [([0, 0], 1), ([1], 0)], 0)
        self.refused(NoRow, bounds, 2, [([1], 0)], -1)
        self.refused(NoUnknown, bounds, 2, [([0, 0], 1)], 2)
        self.refused(NoUnknown, bounds, 2, [([0, 0], 1)], -1)
        self.refused(NoUnknown, bounds, 0, [([], 1)], 0)


class TestSpare(AskingCase):
    def test_example_of_point_10(self):
        rows = [([2], 3), ([-1], -4), ([1], 1)]
        self.assertEqual([self.spare(1, rows, place) for place in range(3)], ["needed", "needed", "spare"])
        _, often, weights = spare(1, rows, 2)
        self.assertEqual(weights[0] * 2, often)

    def test_sum_of_the_others(self):
        rows = [([1, 1], 2), ([1, -1], 0), ([3, 1], 4), ([3, 1], 5), ([2, 0], 2)]
        self.assertEqual(self.spare(2, rows[:3], 2), "spare")
        self.assertEqual(self.spare(2, rows[:2] + [rows[3]], 2), "needed")
        self.assertEqual(self.spare(2, rows[:2] + [rows[4]], 2), "spare")
        self.assertEqual(self.spare(2, [rows[2]] + rows[:2], 0), "spare")
        self.assertEqual(self.spare(2, [rows[0], rows[2], rows[1]], 1), "spare")

    def test_just_the_least_number_and_one_over(self):
        for least, wanted in ((5, "spare"), (6, "spare"), (7, "needed")):
            rows = [([3, 0, 0], 2), ([0, 2, 0], 3), ([0, 0, 1], -1), ([6, 4, 4], least)]
            self.assertEqual(self.spare(3, rows, 3), wanted)
            self.assertEqual(self.spare(3, rows[3:] + rows[:3], 0), wanted)

    def test_row_that_stands_twice(self):
        rows = [([1, 2], 3), ([0, 1], 1), ([1, 2], 3)]
        self.assertEqual([self.spare(2, rows, place) for place in range(3)], ["spare", "needed", "spare"])

    def test_nothing_meets_the_others(self):
        rows = [([1], 5), ([2], 3), ([-2], -2)]
        self.assertEqual(self.spare(1, rows, 0), "spare, nothing meets the others")
        self.assertEqual(self.spare(1, rows, 1), "spare, nothing meets the others")
        self.assertEqual(self.spare(1, rows, 2), "needed")
        rows = [([0, 0], 1), ([7, 8], 9)]
        self.assertEqual(self.spare(2, rows, 0), "needed")
        self.assertEqual(self.spare(2, rows, 1), "spare, nothing meets the others")

    def test_needed_though_nothing_meets_all(self):
        rows = [([2], 3), ([-2], -2)]
        self.assertEqual([self.spare(1, rows, place) for place in range(2)], ["needed", "needed"])

    def test_one_row_alone(self):
        self.assertEqual(self.spare(1, [([3], 4)], 0), "needed")
        self.assertEqual(self.spare(3, [([0, -1, 0], -10 ** 9)], 0), "needed")
        for count in range(4):
            self.assertEqual(self.spare(count, [([0] * count, 0)], 0), "spare")
            self.assertEqual(self.spare(count, [([0] * count, -7)], 0), "spare")
            self.assertEqual(self.spare(count, [([0] * count, 1)], 0), "needed")

    def test_needed_where_the_row_alone_bounds(self):
        rows = [([1, 1], 2), ([1, -1], 0)]
        self.assertEqual([self.spare(2, rows, place) for place in range(2)], ["needed", "needed"])
        rows = [([0, 1, 0], 2), ([0, 0, 1], 3), ([1, 5, 5], -99)]
        self.assertEqual([self.spare(3, rows, place) for place in range(3)], ["needed", "needed", "needed"])

    def test_needed_far_off(self):
        rows = [([1], -GREAT), ([-1], -GREAT), ([2], 1 - 2 * GREAT)]
        self.assertEqual([self.spare(1, rows, place) for place in range(3)], ["spare", "needed", "needed"])

    def test_no_unknown(self):
        rows = [([], 0), ([], 2), ([], -1)]
        wanted = ["spare, nothing meets the others", "needed", "spare, nothing meets the others"]
        self.assertEqual([self.spare(0, rows, place) for place in range(3)], wanted)

    def test_many_rows(self):
        chance = Random(8)
        told = {"spare": 0, "needed": 0, "spare, nothing meets the others": 0}
        for _ in range(500):
            count = chance.randint(0, 3)
            rows = random_rows(chance, count, chance.randint(1, 12))
            for place in range(len(rows)):
                answer = self.spare(count, rows, place)
                others = rows[:place] + rows[place + 1:]
                nothing = self.met(count, others) == "not"
                self.assertIs(answer == "spare, nothing meets the others", nothing)
                told[answer] += 1
        self.assertGreater(min(told.values()), 300)

    def test_twelve_rows_of_two_hundred_figures(self):
        chance = Random(9)
        told = {"spare": 0, "needed": 0, "spare, nothing meets the others": 0}
        for sign in (-1, -1, 1):
            rows = great_rows(chance, 3, 12, sign)
            for place in range(12):
                told[self.spare(3, rows, place)] += 1
        self.assertGreater(min(told.values()), 2)

    def test_somewhat_beyond_the_bounds_is_not_refused(self):
        rows = great_rows(Random(10), 5, 16, -1)
        self.spare(5, rows, 15)

    def test_nothing_is_kept_from_one_call_to_the_next(self):
        rows = [([2], 3), ([-1], -4), ([1], 1)]
        for place in range(3):
            first = spare(1, rows, place)
            kept = first[:-1] + (list(first[-1]),)
            first[-1].append(9)
            spare(1, [([1], 1)], 0)
            self.assertEqual(spare(1, rows, place), kept)

    def test_wrong_rows(self):
        for rows in ([([1, 2, 3], 0)], [([1], 0)], [([], 0)], [([1, 2], 0), ([1], 0)], [([1, 2, 3], 0), ([1], 0)],
                     [([1], 0), ([1, 2], 0)]):
            for place in range(len(rows)):
                self.refused(NoRow, spare, 2, rows, place)
            self.refused(NoRow, spare, 2, rows, 99)

    def test_place_at_which_no_row_stands(self):
        rows = [([1, 2], 0), ([-1, 3], 4)]
        for place in (-1, -2, -3, 2, 3, 99, -99, GREAT, -GREAT):
            self.refused(NoRow, spare, 2, rows, place)
            self.refused(NoRow, spare, 2, [([0, 0], 1)], place)
        for place in (-1, 0, 1):
            self.refused(NoRow, spare, 2, [], place)
            self.refused(NoRow, spare, 0, [], place)


if __name__ == "__main__":
    unittest.main()
