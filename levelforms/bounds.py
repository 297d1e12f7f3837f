"""Bounds: the least values that meet them, and the fewest that can't be met together with a further one.

A bound is a pair: a variable, and the table of the level that it is to be at least.
"""

from levelforms.tables import set_above_zero, value_of_row


def lift(values, bounds):
    lifted = list(values)
    for variable, table in bounds:
        row = table[set_above_zero(lifted)]
        lifted[variable] = max(lifted[variable], value_of_row(row, lifted))
    return lifted


# A level never falls where values rise, so what is lifted from 0 on never passes values that meet the bounds: where
# nothing rises any more, these are the least. While the variables above 0 stay the same, each level is the greatest of
# a number and of variables plus numbers; then a value that rises in more rounds than there are variables has been
# lifted by itself, and would be so for ever.
def least_that_meet(bounds, variables):
    values = [0] * variables
    rounds = 0
    while rounds <= variables:
        lifted = lift(values, bounds)
        if lifted == values:
            return values
        rounds = rounds + 1 if set_above_zero(lifted) == set_above_zero(values) else 0
        values = lifted
    return None


def can_be_met(bounds, variables):
    return least_that_meet(bounds, variables) is not None


# From choices of one size, in order, come those of the next size, in order.
def choices_with_one_more(choices, how_many):
    longer = []
    for choice in choices:
        for number in range(max(choice, default=-1) + 1, how_many):
            longer.append(choice + [number])
    return longer


def fewest_that_clash(bounds, further, variables):
    # Values that meet all meet each choice of them too, so there's no need to try the choices then.
    if can_be_met(bounds + [further], variables):
        return None
    choices = [[]]
    while len(choices) > 0:
        for choice in choices:
            if not can_be_met([bounds[number] for number in choice] + [further], variables):
                return choice
        choices = choices_with_one_more(choices, len(bounds))
    return None
