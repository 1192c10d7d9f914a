"""Rows of at least: held against values, and summed by weights."""

from atleast.errors import NoRow, NoValues, NoWeights
from atleast.parts import common_one, in_parts


def check_row(count, row):
    if len(row[0]) != count:
        raise NoRow("a row has one number for each unknown")


def check_rows(count, rows):
    for row in rows:
        check_row(count, row)


def check_values(count, values):
    if len(values) != count:
        raise NoValues("there is one value for each unknown")
    for value in values:
        if value[1] < 1:
            raise NoValues("one is one part or more")


def check_weights(rows, weights):
    if len(weights) != len(rows):
        raise NoWeights("there is one weight for each row")
    for weight in weights:
        if weight < 0:
            raise NoWeights("a weight is nought or more")


def sum_by(numbers, times):
    return sum([number * often for number, often in zip(numbers, times)])


def numbers_of(rows, unknown):
    return [row[0][unknown] for row in rows]


def holds(count, rows, values):
    check_rows(count, rows)
    check_values(count, values)
    # In common parts both sides of a row stay whole numbers, so nothing is rounded.
    common = common_one(values)
    parts = in_parts(values, common)
    return all([sum_by(row[0], parts) >= row[1] * common for row in rows])


def sum_of(count, rows, weights):
    check_rows(count, rows)
    check_weights(rows, weights)
    numbers = [sum_by(numbers_of(rows, unknown), weights) for unknown in range(count)]
    return (numbers, sum_by([row[1] for row in rows], weights))
