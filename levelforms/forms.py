"""The form of a level: its parts, read off its table.

A part of a set counts wherever all of the set's variables are above 0, so in the rows of all greater sets too. What a
row has beyond the rows of the sets with one variable less can't come from a smaller set: that part is needed. And
a level never falls where values rise, so these parts together make up every row.
"""

from levelforms.tables import ABSENT, in_set, least_of_row

NO_VARIABLE = 0


def rows_one_less(table, members):
    variables = len(table[members]) - 1
    return [table[members - (1 << variable)] for variable in range(variables) if in_set(variable, members)]


# A variable of the set is 1 at least, so a number alone is needed only above all that variables come to there.
def needs_number_alone(row, rows_below):
    below = max([least_of_row(other) for other in rows_below], default=0)
    return row[0] > max(below, max(row[1:]) + 1)


def parts_of_set(table, members):
    row = table[members]
    rows_below = rows_one_less(table, members)
    parts = []
    if needs_number_alone(row, rows_below):
        parts.append((members, NO_VARIABLE, row[0]))
    for place in range(1, len(row)):
        below = max([other[place] for other in rows_below], default=ABSENT)
        if row[place] > below:
            parts.append((members, place, row[place]))
    return parts


def form_of_table(table):
    parts = []
    for members in range(len(table)):
        parts.extend(parts_of_set(table, members))
    return parts
