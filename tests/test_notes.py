"""Points 12 and 13, and the interface's section atleast/notes.py."""

import re
import unittest
from inspect import signature
from itertools import product
from random import Random
from string import ascii_lowercase, printable

from atleast.errors import NoLine, NoRow
from atleast.notes import read, shown
from cases import GREAT, Case

FIGURES = "([2-9]|[1-9][0-9]+)"
LEFT_OF_TWO = re.compile(f"0|-?{FIGURES}?a([+-]{FIGURES}?b)?|-?{FIGURES}?b")
RIGHT = re.compile("0|-?[1-9][0-9]*")

# Each sign that a text may have: from the blank to `~`, but for one.
SIGNS = [sign for sign in printable if " " <= sign <= "~" and sign != "%"]


def number_ahead(left, letter):
    """What stands ahead of a letter in a line, by what is left of it when all else is cut away."""
    if letter not in left:
        return 0
    ahead = re.split("[a-z]", left[:left.index(letter)])[-1]
    return int(ahead + "1") if ahead in ("", "+", "-") else int(ahead)


def texts(signs, most):
    return ["".join(chosen) for length in range(most + 1) for chosen in product(signs, repeat=length)]


class NotesCase(Case):
    def both_ways(self, count, row, line):
        written = self.answer(shown, count, row)
        self.assertIs(type(written), str)
        self.assertEqual(written, line)
        got = self.answer(read, count, line)
        self.is_row(got, count)
        self.assertEqual(got, row)


class TestInterface(unittest.TestCase):
    def test_arguments_by_name(self):
        self.assertEqual(list(signature(shown).parameters), ["count", "row"])
        self.assertEqual(list(signature(read).parameters), ["count", "line"])
        self.assertEqual(shown(count=1, row=([1], 2)), "a>=2")
        self.assertEqual(read(count=1, line="a>=2"), ([1], 2))


class TestLines(NotesCase):
    def test_example_of_point_12(self):
        self.both_ways(3, ([2, 0, -1], -3), "2a-c>=-3")

    def test_signs_and_figures(self):
        self.both_ways(1, ([1], 1), "a>=1")
        self.both_ways(1, ([-1], 1), "-a>=1")
        self.both_ways(1, ([7], 0), "7a>=0")
        self.both_ways(1, ([-7], 0), "-7a>=0")
        self.both_ways(2, ([1, 1], 12), "a+b>=12")
        self.both_ways(2, ([-1, -1], -12), "-a-b>=-12")
        self.both_ways(2, ([10, 11], 1), "10a+11b>=1")
        self.both_ways(2, ([-10, -11], -1), "-10a-11b>=-1")
        self.both_ways(2, ([100, 1], 100), "100a+b>=100")
        self.both_ways(3, ([1, -20, 3], -10), "a-20b+3c>=-10")

    def test_noughts_are_left_out(self):
        self.both_ways(3, ([0, 1, 0], 2), "b>=2")
        self.both_ways(3, ([0, -1, 0], 2), "-b>=2")
        self.both_ways(3, ([0, 0, 5], 2), "5c>=2")
        self.both_ways(3, ([0, 4, -5], 2), "4b-5c>=2")
        self.both_ways(3, ([3, 0, 1], 2), "3a+c>=2")

    def test_noughts_alone(self):
        for count in range(4):
            self.both_ways(count, ([0] * count, 0), "0>=0")
            self.both_ways(count, ([0] * count, 1), "0>=1")
            self.both_ways(count, ([0] * count, -30), "0>=-30")
        self.both_ways(26, ([0] * 26, 0), "0>=0")

    def test_26_unknowns(self):
        for place, letter in enumerate(ascii_lowercase):
            numbers = [0] * 26
            numbers[place] = -2
            self.both_ways(26, (numbers, 5), f"-2{letter}>=5")
        self.both_ways(26, ([1] * 26, 3), "+".join(ascii_lowercase) + ">=3")
        self.both_ways(26, ([-1] * 26, 3), "-" + "-".join(ascii_lowercase) + ">=3")

    def test_two_hundred_figures(self):
        self.both_ways(2, ([GREAT, -GREAT], -GREAT), f"{GREAT}a-{GREAT}b>=-{GREAT}")
        self.both_ways(2, ([-GREAT, 10 ** 199], 10 ** 199), f"-{GREAT}a+1{'0' * 199}b>=1{'0' * 199}")
        self.both_ways(26, ([GREAT] * 26, GREAT), "+".join(f"{GREAT}{letter}" for letter in ascii_lowercase) + f">={GREAT}")

    def test_somewhat_beyond_the_bounds_is_not_refused(self):
        self.both_ways(1, ([10 ** 220], -10 ** 220), f"{10 ** 220}a>=-{10 ** 220}")
        self.both_ways(28, ([3] + [0] * 27, 1), "3a>=1")

    def test_every_line_shown_is_read_to_its_row(self):
        chance = Random(12)
        for _ in range(2000):
            count = chance.randint(0, 26)
            most = chance.choice((1, 2, 12, 101, GREAT))
            row = ([chance.choice((0, 1)) * chance.randint(-most, most) for _ in range(count)],
                   chance.randint(-most, most))
            self.both_ways(count, row, shown(count, row))

    def test_small_rows_have_lines_of_their_own(self):
        lines = {}
        for first, second, least in product(range(-12, 13), range(-12, 13), range(-12, 13)):
            row = ([first, second], least)
            line = shown(2, row)
            self.assertNotIn(line, lines)
            lines[line] = row
            self.assertEqual(read(2, line), row)

    def test_the_answer_is_made_anew(self):
        read(2, "a>=1")[0].append(9)
        self.assertEqual(read(2, "a>=1"), ([1, 0], 1))

    def test_shown_refuses_wrong_rows(self):
        for count, numbers in ((0, [0]), (1, []), (1, [0, 0]), (2, [1]), (2, [1, 2, 3]), (26, [1] * 25), (3, [])):
            self.refused(NoRow, shown, count, (numbers, 1))


class TestTextsThatAreNoLines(NotesCase):
    def none_is_a_line(self, count, refused):
        for text in refused:
            self.refused(NoLine, read, count, text)

    def test_those_that_point_13_names(self):
        named = ["+a>=1", "1a>=1", "0a>=1", "b+a>=1", "a+a>=1", "a>=01", "a >= 1", "c>=1", ""]
        for count in (1, 2):
            self.none_is_a_line(count, named)
        self.none_is_a_line(26, [text for text in named if text != "c>=1"])

    def test_a_letter_that_no_unknown_has(self):
        self.none_is_a_line(0, ["a>=0", "z>=0", "0a>=0"])
        self.none_is_a_line(1, ["b>=1", "a+b>=1", "2a-3b>=1", "a+0b>=1"])
        self.none_is_a_line(2, ["a+z>=1", "A>=1", "a+B>=1", "{>=1", "`>=1"])
        self.none_is_a_line(26, ["A>=1", "Z>=1", "{>=1", "`>=1"])
        for place, letter in enumerate(ascii_lowercase):
            self.none_is_a_line(place, [f"{letter}>=1"])
            self.both_ways(place + 1, ([0] * place + [1], 1), f"{letter}>=1")

    def test_noughts_and_ones_that_are_not_written(self):
        self.none_is_a_line(3, [
            "00>=0", "-0>=0", "+0>=0", "0+a>=0", "a+0>=0", "0a+b>=0", "a+0b>=0", "a-0b+c>=0", "a+0b+c>=0", "02a>=1",
            "a+02b>=1", "a-1b>=1", "-1a>=1", "a+1b>=1", "+0a>=0", "-0a>=0", ">=0", ">=1", "a>=-0", "a>=00", "a>=-01",
            "a>=+1", "0>=+0", "0>=-0", "5>=3", "1>=1", "2+a>=1", "a+2>=1", "a2>=1", "ab>=1", "a2b>=1", "2ab>=1"])

    def test_order_and_letters_that_stand_twice(self):
        self.none_is_a_line(3, [
            "c+a>=1", "a+c+b>=1", "c+b+a>=1", "-b-a>=1", "2b+3a>=1", "2a+3a>=1", "a-a>=1", "a+b+a>=1", "a+b+b>=1",
            "aa>=1", "2a-2a>=0"])

    def test_signs_too_many_too_few_or_others(self):
        self.none_is_a_line(3, [
            "a>1", "a=1", "a=>1", "a<=1", "a==1", "a>==1", "a>>=1", "a>=>=1", "a>=1>=1", "a> =1", "a>=", "a", "1", "0",
            ">=", "=", ">", "a>=1=", "a>=1>", "a>=b", "a>=1a", "a>=--1", "a>=-", "a>=+", "a>=1-", "a>=1+1", "a>=1.0",
            "--a>=1", "++a>=1", "+-a>=1", "-+a>=1", "a++b>=1", "a--b>=1", "a+-b>=1", "a-+b>=1", "a+>=1", "a->=1",
            "+>=1", "->=1", "2>=1", "a+b+>=1", "2*a>=1", "a*2>=1", "2 a>=1", " a>=1", "a>=1 ", "a>= 1", "a >=1",
            "a + b>=1", "a +b>=1", "a>=1 0", "1 0a>=1", "a>=1_0", "1_0a>=1", "a>=0x1", "a>=1e3", "a>=1,", "(a)>=1",
            "a>=(1)", "a,b>=1", "~a>=1", "a>=~1", "a^b>=1", "a/2>=1", "a;b>=1", "2.5a>=1", "a>='1'", "\"a>=1\"",
            "a>=1#", "$a>=1", "a&b>=1", "a|b>=1", "a\\b>=1", "[a]>=1", "{a}>=1", "a>=1?", "a>=1!", "@a>=1", "b a>=1",
            "a2+b>=1", "+2a>=1", "a+2b+>=1", "  ", " ", "0 >=0", "0>= 0", "0>=0 ", " 0>=0", "0>=", "O>=0", "0=>0"])

    def test_each_sign_put_in_left_out_or_in_the_place_of_another(self):
        for row in (([2, 0, -1], -3), ([0, 0, 0], 0), ([-1, 10, 1], 20), ([1, 1, 1], 1)):
            line = shown(3, row)
            near = [line[:at] + sign + line[at:] for at in range(len(line) + 1) for sign in SIGNS]
            near += [line[:at] + sign + line[at + 1:] for at in range(len(line)) for sign in SIGNS + [""]]
            for text in near:
                self.line_or_refused(3, text)

    def line_or_refused(self, count, text):
        """Whatever is read at all is just what its row is written as, so nothing but a line is read."""
        try:
            got = read(count, text)
        except NoLine:
            return False
        self.assertEqual(shown(count, got), text)
        return True

    def test_short_texts_all_through(self):
        lines = 0
        for left in texts("012ab+-", 5):
            wanted = LEFT_OF_TWO.fullmatch(left) is not None
            self.assertIs(self.line_or_refused(2, left + ">=3"), wanted, left)
            if wanted:
                lines += 1
                numbers = [number_ahead(left, "a"), number_ahead(left, "b")]
                self.assertEqual(read(2, left + ">=3"), (numbers, 3))
        self.assertGreater(lines, 200)

    def test_short_least_numbers_all_through(self):
        for right in texts("0129-+a>= ", 3):
            wanted = RIGHT.fullmatch(right) is not None
            self.assertIs(self.line_or_refused(2, "a-2b>=" + right), wanted, right)
            if wanted:
                self.assertEqual(read(2, "a-2b>=" + right), ([1, -2], int(right)))

    def test_short_texts_of_every_sign(self):
        for text in texts(SIGNS, 2):
            self.refused(NoLine, read, 3, text)

    def test_short_texts_round_the_sign_of_at_least(self):
        told = [text for text in texts("0a>=- ", 5) if self.line_or_refused(1, text)]
        self.assertEqual(told, ["0>=0", "a>=0", "-a>=0"])


if __name__ == "__main__":
    unittest.main()
