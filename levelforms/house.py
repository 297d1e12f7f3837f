"""The house: a line's calls, one after another, and what is answered of them."""

from levelforms.bounds import can_be_met, fewest_that_clash, least_that_meet
from levelforms.differences import first_values_above, first_values_apart
from levelforms.forms import form_of_table
from levelforms.reading import Misfit, read_level_and_values, read_level_of_bound, read_levels
from levelforms.tables import table_of_level, table_with_put_in, value_of_level

BEGIN = 0
FORM = 1
LEQ = 2
SAME = 3
VALUE = 4
PUT = 5
BOUND = 6
LEAST = 7
UNDO = 8

# How many whole numbers, and how many rows behind them, each call has, by its number.
NUMBERS_OF_CALL = (1, 0, 0, 0, 0, 0, 1, 0, 0, 1)
ROWS_OF_CALL = (0, 1, 1, 1, 1, 1, 1, 0, 0, 1)

MOST_VARIABLES = 4
MOST_BOUNDS = 9

MISFIT = -1
NO_BOUND = -4
TOO_MANY_BOUNDS = -5
ALL_CAN_BE_MET = -6
NONE_MEET_ALL = -7


class House:
    def __init__(self):
        self.variables = 1
        self.bounds = []

    def begin(self, variables):
        if variables < 1 or variables > MOST_VARIABLES:
            return [MISFIT]
        self.variables = variables
        self.bounds = []
        return [0]

    def tables(self, row, how_many):
        levels = read_levels(row, self.variables, how_many)
        return [table_of_level(level, self.variables) for level in levels]

    def form(self, row):
        return answer_of_form(self.tables(row, 1)[0])

    def leq(self, row):
        tables = self.tables(row, 2)
        return answer_of_search(first_values_above(tables[0], tables[1]))

    def same(self, row):
        tables = self.tables(row, 2)
        return answer_of_search(first_values_apart(tables[0], tables[1]))

    def value(self, row):
        told = read_level_and_values(row, self.variables)
        return [value_of_level(told[0], told[1])]

    def put(self, row):
        levels = read_levels(row, self.variables, 1 + self.variables)
        put_in = [table_of_level(level, self.variables) for level in levels[1:]]
        return answer_of_form(table_with_put_in(levels[0], put_in))

    def told_bound(self, variable, row):
        level = read_level_of_bound(variable, row, self.variables)
        return (variable, table_of_level(level, self.variables))

    def bound(self, variable, row):
        bounds = self.bounds + [self.told_bound(variable, row)]
        if len(bounds) > MOST_BOUNDS:
            return [TOO_MANY_BOUNDS]
        if not can_be_met(bounds, self.variables):
            return [NONE_MEET_ALL]
        self.bounds = bounds
        return [len(bounds)]

    def least(self):
        return [0] + least_that_meet(self.bounds, self.variables)

    def undo(self):
        if len(self.bounds) == 0:
            return [NO_BOUND]
        self.bounds.pop()
        return [len(self.bounds)]

    def clash(self, variable, row):
        further = self.told_bound(variable, row)
        choice = fewest_that_clash(self.bounds, further, self.variables)
        if choice is None:
            return [ALL_CAN_BE_MET]
        return [len(choice)] + choice


def answer_of_form(table):
    parts = form_of_table(table)
    answer = [len(parts)]
    for part in parts:
        answer.extend(part)
    return answer


def answer_of_search(values):
    if values is None:
        return [1]
    return [0] + values


def split_calls(calls):
    split = []
    place = 0
    while place < len(calls):
        sign = calls[place]
        place += 1
        numbers = calls[place:place + NUMBERS_OF_CALL[sign]]
        place += len(numbers)
        row = []
        if ROWS_OF_CALL[sign] == 1:
            row = calls[place + 1:place + 1 + calls[place]]
            place += 1 + len(row)
        split.append((sign, numbers, row))
    return split


def answer_of_call(house, sign, numbers, row):
    if sign == BEGIN:
        return house.begin(numbers[0])
    if sign == FORM:
        return house.form(row)
    if sign == LEQ:
        return house.leq(row)
    if sign == SAME:
        return house.same(row)
    if sign == VALUE:
        return house.value(row)
    if sign == PUT:
        return house.put(row)
    if sign == BOUND:
        return house.bound(numbers[0], row)
    if sign == LEAST:
        return house.least()
    if sign == UNDO:
        return house.undo()
    return house.clash(numbers[0], row)


def answer_or_refusal(house, sign, numbers, row):
    try:
        return answer_of_call(house, sign, numbers, row)
    except Misfit:
        return [MISFIT]


def answers(calls):
    house = House()
    given = []
    for sign, numbers, row in split_calls(calls):
        answer = answer_or_refusal(house, sign, numbers, row)
        given.append(len(answer))
        given.extend(answer)
    return given
