"""The house: a line's calls, one after another, and what is answered of them."""

from levelforms.differences import first_values_above, first_values_apart
from levelforms.forms import form_of_table
from levelforms.reading import NotLevels, read_level_and_values, read_levels
from levelforms.tables import table_of_level, value_of_level

BEGIN = 0
FORM = 1
LEQ = 2
SAME = 3
VALUE = 4

# How many whole numbers, and how many rows behind them, each call has, by its number.
NUMBERS_OF_CALL = (1, 0, 0, 0, 0, 0, 1, 0, 0, 1)
ROWS_OF_CALL = (0, 1, 1, 1, 1, 1, 1, 0, 0, 1)

MOST_VARIABLES = 4
MISFIT = -1


class House:
    def __init__(self):
        self.variables = 1

    def begin(self, variables):
        if variables < 1 or variables > MOST_VARIABLES:
            return [MISFIT]
        self.variables = variables
        return [0]

    def tables(self, row, how_many):
        levels = read_levels(row, self.variables, how_many)
        return [table_of_level(level, self.variables) for level in levels]

    def form(self, row):
        parts = form_of_table(self.tables(row, 1)[0])
        answer = [len(parts)]
        for part in parts:
            answer.extend(part)
        return answer

    def leq(self, row):
        tables = self.tables(row, 2)
        return answer_of_search(first_values_above(tables[0], tables[1]))

    def same(self, row):
        tables = self.tables(row, 2)
        return answer_of_search(first_values_apart(tables[0], tables[1]))

    def value(self, row):
        told = read_level_and_values(row, self.variables)
        return [value_of_level(told[0], told[1])]


def answer_of_search(values):
    if values is None:
        return [1]
    return [0] + values


def split_calls(calls):
    split = []
    place = 0
    while place < len(calls):
        sign = calls[place]
        place += 1
        numbers = calls[place:place + NUMBERS_OF_CALL[sign]]
        place += len(numbers)
        row = []
        if ROWS_OF_CALL[sign] == 1:
            row = calls[place + 1:place + 1 + calls[place]]
            place += 1 + len(row)
        split.append((sign, numbers, row))
    return split


def answer_of_call(house, sign, numbers, row):
    if sign == BEGIN:
        return house.begin(numbers[0])
    if sign == FORM:
        return house.form(row)
    if sign == LEQ:
        return house.leq(row)
    if sign == SAME:
        return house.same(row)
    if sign == VALUE:
        return house.value(row)
    # Any answer would look like one that the document tells, so a call that isn't written yet has none.
    raise NotImplementedError()


def answer_or_refusal(house, sign, numbers, row):
    try:
        return answer_of_call(house, sign, numbers, row)
    except NotLevels:
        return [MISFIT]


def answers(calls):
    house = House()
    given = []
    for sign, numbers, row in split_calls(calls):
        answer = answer_or_refusal(house, sign, numbers, row)
        given.append(len(answer))
        given.extend(answer)
    return given
