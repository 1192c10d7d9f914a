"""The least that a goal comes to in any values that meet rows, found by going from corner to corner.

A goal is a list with a number for each unknown: each unknown taken so many times, all together.
"""

from atleast.parts import least_parts
from atleast.taking import plain_row


def single(count, unknown):
    return [1 if other == unknown else 0 for other in range(count)]


# The line as a sum of the new sides: what the pivot tells has become a side in the place of the old one.
# Nothing is rounded: up to its sign each number is a determinant of the first table's numbers, and so is `one`,
# which goes into what stands here. So the numbers don't grow with the length of the way either.
def turned_line(line, pivot, side, one):
    turned = [(number * pivot[side] - line[side] * other) // one for number, other in zip(line, pivot)]
    turned[side] = line[side]
    # How many parts are one must stay above nought, or the signs of the table would lie.
    if pivot[side] < 0:
        return [-number for number in turned]
    return turned


# A line for each row, by how much it is over its least number; one for each unknown; and last one for the goal.
# A line tells this as a sum: so many times each side, and a number by itself at its end; `one` parts are one.
# A side is itself a line, told by its place. At the corner all sides are nought, so each line comes to its end.
class Table:
    def __init__(self, count, rows, goal):
        self.size = len(rows)
        self.one = 1
        self.sides = [self.size + unknown for unknown in range(count)]
        self.lines = [row[0] + [-row[1]] for row in rows]
        self.lines.extend([single(count, unknown) + [0] for unknown in range(count)])
        self.lines.append(goal + [0])

    def turn(self, place, side):
        pivot = self.lines[place]
        self.lines = [turned_line(line, pivot, side, self.one) for line in self.lines]
        self.one = abs(pivot[side])
        self.sides[side] = place

    # Only rows are of use as sides, as a row's line may not be below nought and an unknown may.
    # An unknown stays a side where no row's line takes it any times, so that it may have any value.
    def settle(self):
        for side in range(len(self.sides)):
            places = [place for place in range(self.size) if self.lines[place][side] != 0]
            if places != []:
                self.turn(places[0], side)

    # A goal that takes an unknown which may have any value can be as small as is wanted.
    def is_endless(self):
        goal = self.lines[-1]
        return any([goal[side] != 0 for side, place in enumerate(self.sides) if place >= self.size])

    # Either the corner does not meet this row, or the row is a side and the goal gets less by going off from it.
    def first_wrong(self):
        goal = self.lines[-1]
        for place in range(self.size):
            if self.lines[place][-1] < 0:
                return place
            if place in self.sides and goal[self.sides.index(place)] < 0:
                return place
        return None

    # A row that gets less by going off from the side; None where nothing is in the way.
    def first_hindering(self, side):
        return min([place for place in range(self.size) if self.lines[place][side] < 0], default=None)

    # A side from which to go off makes the line more; None where nothing can.
    def first_helping(self, line):
        return min([place for number, place in zip(line, self.sides) if number > 0], default=None)

    def weights_of(self, line):
        weights = [0 for place in range(self.size)]
        for number, place in zip(line, self.sides):
            if place < self.size:
                weights[place] = number
        return weights

    # For the line of a row that no side can help and that ends below nought: the row, and its sides brought over
    # to it, are a sum by point 5.
    def weights_against(self, place):
        weights = self.weights_of([-number for number in self.lines[place]])
        weights[place] = self.one
        return plain_row((weights, 0))[0]

    def corner(self):
        return [least_parts((line[-1], self.one)) for line in self.lines[self.size:-1]]


# ("not", weights) where nothing meets the rows, by point 5; ("endless",) where the goal has no least, if anything
# meets the rows at all; else ("least", values, often, weights): the goal is least at these values, which meet the
# rows, and the sum of the rows by the weights has the goal's numbers so often, and the least number so often.
# Of all rows that do, always the first one is taken, both to come and to go. This keeps the way from running in a
# ring; it is known as the criss-cross method by least index.
def lowest(count, rows, goal):
    table = Table(count, rows, goal)
    table.settle()
    if table.is_endless():
        return ("endless",)
    wrong = table.first_wrong()
    while wrong is not None:
        if wrong in table.sides:
            coming = table.first_hindering(table.sides.index(wrong))
            if coming is None:
                return ("endless",)
            table.turn(coming, table.sides.index(wrong))
        else:
            going = table.first_helping(table.lines[wrong])
            if going is None:
                return ("not", table.weights_against(wrong))
            table.turn(wrong, table.sides.index(going))
        wrong = table.first_wrong()
    shown = plain_row((table.weights_of(table.lines[-1]), table.one))
    return ("least", table.corner(), shown[1], shown[0])
