"""Levels as numbers tell them.

A level that has been read is a list of steps, in the order in which they were told: ZERO, ONE_MORE, MOST or OVER,
and VARIABLE + i for variable i.
"""

ZERO = 0
ONE_MORE = 1
MOST = 2
OVER = 3
VARIABLE = 4

PARTS_OF_SIGN = (0, 1, 2, 2, 0)
DEEPEST = 20


class Misfit(Exception):
    pass


class Reader:
    def __init__(self, numbers, variables):
        self.numbers = numbers
        self.variables = variables
        self.place = 0

    def at_end(self):
        return self.place == len(self.numbers)

    def take(self):
        if self.at_end():
            raise Misfit()
        number = self.numbers[self.place]
        self.place += 1
        return number

    def take_variable(self):
        variable = self.take()
        if variable >= self.variables:
            raise Misfit()
        return variable

    # The depths of the levels still to come are kept in a list, so that no nesting makes calls within calls.
    def take_level(self):
        steps = []
        depths = [1]
        while len(depths) > 0:
            depth = depths.pop()
            sign = self.take()
            if depth > DEEPEST or sign > VARIABLE:
                raise Misfit()
            depths.extend([depth + 1] * PARTS_OF_SIGN[sign])
            steps.append(VARIABLE + self.take_variable() if sign == VARIABLE else sign)
        return steps


def read_levels(numbers, variables, how_many):
    reader = Reader(numbers, variables)
    levels = []
    while len(levels) < how_many:
        levels.append(reader.take_level())
    if not reader.at_end():
        raise Misfit()
    return levels


def read_level_and_values(numbers, variables):
    reader = Reader(numbers, variables)
    level = reader.take_level()
    values = numbers[reader.place:]
    if len(values) != variables:
        raise Misfit()
    return (level, values)


def read_level_of_bound(variable, numbers, variables):
    if variable >= variables:
        raise Misfit()
    return read_levels(numbers, variables, 1)[0]
