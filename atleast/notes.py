"""Rows as lines: written, and read again."""

from atleast.errors import NoLine
from atleast.rows import check_row

LETTERS = "abcdefghijklmnopqrstuvwxyz"
FIGURES = "0123456789"


def shown_number(number, letter):
    sign = "-" if number < 0 else "+"
    figures = "" if abs(number) == 1 else str(abs(number))
    return f"{sign}{figures}{letter}"


def shown_numbers(numbers):
    text = "".join([shown_number(number, LETTERS[place]) for place, number in enumerate(numbers) if number != 0])
    if text == "":
        return "0"
    return text[1:] if text.startswith("+") else text


def shown(count, row):
    check_row(count, row)
    return shown_numbers(row[0]) + ">=" + str(row[1])


def read_whole(text):
    signed = text.startswith("+") or text.startswith("-")
    figures = text[1:] if signed else text
    if figures == "" or not all([sign in FIGURES for sign in figures]):
        raise NoLine("figures are wanted")
    return -int(figures) if text.startswith("-") else int(figures)


# What stands ahead of a letter; a sign alone, or nothing, stands for the figure 1.
def read_number(text):
    if text in ("", "+", "-"):
        return read_whole(text + "1")
    return read_whole(text)


# Signs behind the last letter are passed over, and the `0` of noughts alone so too: `read` sees what is no line.
def read_numbers(count, text):
    numbers = [0 for unknown in range(count)]
    ahead = ""
    for sign in text:
        if sign not in LETTERS:
            ahead = ahead + sign
        elif LETTERS.index(sign) >= count:
            raise NoLine("no unknown has this letter")
        else:
            numbers[LETTERS.index(sign)] = read_number(ahead)
            ahead = ""
    return numbers


def read(count, line):
    sides = line.partition(">=")
    row = (read_numbers(count, sides[0]), read_whole(sides[2]))
    # Many texts are read to one row, and only the one that it is written as is a line.
    if shown(count, row) != line:
        raise NoLine("the line is not as a row is written")
    return row
