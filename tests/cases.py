"""What the test files share."""

import copy
import faulthandler
import unittest

from atleast.errors import RowError

GREAT = 10 ** 200 - 1

# Seconds: far more than any test takes, and far less than a walk over all sums of twelve rows would.
MODERATE = 60


class Case(unittest.TestCase):
    # A test that does not come to an end must fail, not hang.
    def setUp(self):
        faulthandler.dump_traceback_later(MODERATE, exit=True)

    def tearDown(self):
        faulthandler.cancel_dump_traceback_later()

    # Without the differences, which take for ever to tell between long lists of great numbers.
    def same(self, answer, wanted):
        self.assertTrue(answer == wanted, "another answer is wanted")

    def answer(self, function, *given):
        kept = copy.deepcopy(given)
        answer = function(*given)
        self.assertEqual(given, kept, "handed in and changed")
        return answer

    def refused(self, error, function, *given):
        kept = copy.deepcopy(given)
        for caught in (error, RowError, ValueError):
            with self.assertRaises(caught) as told:
                function(*given)
            self.assertIs(type(told.exception), error)
            self.assertEqual(given, kept, "handed in and changed")

    def is_whole(self, number):
        self.assertIs(type(number), int)

    def is_tuple(self, thing, length):
        self.assertIs(type(thing), tuple)
        self.assertEqual(len(thing), length)

    def is_row(self, row, count):
        self.is_tuple(row, 2)
        self.is_numbers(row[0], count)
        self.is_whole(row[1])

    def is_numbers(self, numbers, length):
        self.assertIs(type(numbers), list)
        self.assertEqual(len(numbers), length)
        for number in numbers:
            self.is_whole(number)
