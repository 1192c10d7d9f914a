"""What rows come to: whether they can be met, how small and great an unknown can be, which row is spare."""

from atleast.corners import lowest, single
from atleast.errors import NoRow, NoWay
from atleast.rows import check_rows, holds
from atleast.taking import check_unknown


def met(count, rows):
    check_rows(count, rows)
    # Any values do, so there is nothing to make less: the goal takes each unknown no times.
    found = lowest(count, rows, [0 for unknown in range(count)])
    if found[0] == "not":
        return ("not", found[1])
    return ("met", found[1])


# Where the goal is the unknown, or the unknown times -1, the least of the goal is its least or greatest value.
def bound(count, rows, unknown, goal):
    found = lowest(count, rows, goal)
    if found[0] == "endless":
        return None
    return (found[1][unknown], found[3])


def bounds(count, rows, unknown):
    check_rows(count, rows)
    check_unknown(count, unknown)
    if met(count, rows)[0] == "not":
        raise NoWay("nothing meets the rows")
    goal = single(count, unknown)
    least = bound(count, rows, unknown, goal)
    greatest = bound(count, rows, unknown, [-number for number in goal])
    return (least, greatest)


def check_place(rows, place):
    if place < 0 or place >= len(rows):
        raise NoRow("there is no such row")


def nought_at(place, weights):
    return weights[:place] + [0] + weights[place:]


# One less than the row's least number, or still less than that.
def below_row(row):
    return ([-number for number in row[0]], 1 - row[1])


def spare(count, rows, place):
    check_rows(count, rows)
    check_place(rows, place)
    row = rows[place]
    others = rows[:place] + rows[place + 1:]
    way = met(count, others)
    if way[0] == "not":
        return ("spare", 0, nought_at(place, way[1]))
    found = lowest(count, others, row[0])
    if found[0] == "endless":
        return ("needed", met(count, others + [below_row(row)])[1])
    if holds(count, [row], found[1]):
        return ("spare", found[2], nought_at(place, found[3]))
    return ("needed", found[1])
