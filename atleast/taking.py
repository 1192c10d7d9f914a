"""Taking an unknown out of rows."""

from atleast.errors import NoUnknown
from atleast.parts import common_divisor
from atleast.rows import check_rows, sum_of


def check_unknown(count, unknown):
    if unknown < 0 or unknown >= count:
        raise NoUnknown("there is no such unknown")


def plain_row(row):
    divisor = abs(row[1])
    for number in row[0]:
        divisor = common_divisor(divisor, number)
    # Noughts alone are gone into by every number, so there is no greatest one to divide by.
    if divisor == 0:
        return (list(row[0]), row[1])
    return ([number // divisor for number in row[0]], row[1] // divisor)


# The row above has a number above nought for the unknown, the row below one below nought.
def sum_without(count, above, below, unknown):
    gain = above[0][unknown]
    loss = -below[0][unknown]
    divisor = common_divisor(gain, loss)
    return sum_of(count, [above, below], [loss // divisor, gain // divisor])


def taken_out(count, rows, unknown):
    check_rows(count, rows)
    check_unknown(count, unknown)
    taken = [plain_row(row) for row in rows if row[0][unknown] == 0]
    belows = [row for row in rows if row[0][unknown] < 0]
    for above in [row for row in rows if row[0][unknown] > 0]:
        for below in belows:
            taken.append(plain_row(sum_without(count, above, below, unknown)))
    return taken
