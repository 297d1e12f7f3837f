"""What a level is, told apart by which variables are above 0.

A table is a list with a row for each set of variables, at the set's number (the sum of 2^i, i its variables). Where
just the set's variables are above 0, the level is the greatest of the row's first number and of each variable's value
plus the number at 1 + that variable, but for those that are ABSENT.

Such a row is enough: it stays one under one more and most, and over of two is, within one row, either 0 or most.
"""

from levelforms.reading import MOST, ONE_MORE, OVER, VARIABLE, ZERO

# One below 0, so that a variable that is absent adds nothing to the least value: its number and 1 is 0.
ABSENT = -1


def in_set(variable, members):
    return (members >> variable) & 1 == 1


def zero_row(variables):
    return [0] + [ABSENT] * variables


def variable_row(variable, members, variables):
    row = zero_row(variables)
    if in_set(variable, members):
        row[1 + variable] = 0
    return row


def one_more_row(row):
    return [row[0] + 1] + [ABSENT if number == ABSENT else number + 1 for number in row[1:]]


def most_row(first, second):
    return [max(a, b) for a, b in zip(first, second)]


# Values of a row's variables are 1 at least, so a row is 0 for some of its values just if it is for all of them.
def over_row(first, second):
    if least_of_row(second) == 0:
        return list(second)
    return most_row(first, second)


def least_of_row(row):
    return max(row[0], max(row[1:]) + 1)


def variable_rows(members, variables):
    return [variable_row(variable, members, variables) for variable in range(variables)]


def row_of_level(steps, rows_of_variables):
    # Parts are told behind their sign, so from the end on they are there when the sign is met, the first part on top.
    rows = []
    for step in reversed(steps):
        if step == ZERO:
            rows.append(zero_row(len(rows_of_variables)))
        elif step == ONE_MORE:
            rows.append(one_more_row(rows.pop()))
        elif step == MOST:
            first = rows.pop()
            rows.append(most_row(first, rows.pop()))
        elif step == OVER:
            first = rows.pop()
            rows.append(over_row(first, rows.pop()))
        else:
            rows.append(rows_of_variables[step - VARIABLE])
    return rows.pop()


def table_of_level(steps, variables):
    return [row_of_level(steps, variable_rows(members, variables)) for members in range(1 << variables)]


def rows_at(tables, members):
    return [table[members] for table in tables]


# The levels put in are reckoned row by row, not written out: what comes of it may be far longer and deeper than each.
def table_with_put_in(steps, tables):
    return [row_of_level(steps, rows_at(tables, members)) for members in range(1 << len(tables))]


def set_above_zero(values):
    members = 0
    for variable, value in enumerate(values):
        if value > 0:
            members += 1 << variable
    return members


def value_of_row(row, values):
    reached = [value + number for value, number in zip(values, row[1:]) if number != ABSENT]
    return max(row[0], max(reached, default=0))


def value_of_level(steps, values):
    rows_of_variables = variable_rows(set_above_zero(values), len(values))
    return value_of_row(row_of_level(steps, rows_of_variables), values)
