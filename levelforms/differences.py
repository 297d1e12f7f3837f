"""The values, ahead of all others, for which one level is above another or differs from it."""

from levelforms.tables import in_set, least_of_row


def least_values(members, variables):
    return [1 if in_set(variable, members) else 0 for variable in range(variables)]


def with_value(values, variable, value):
    changed = list(values)
    changed[variable] = value
    return changed


# If the first is above the second, it's by its number alone or by one variable. All else may then be as little as it
# can be in this set, since that only lowers the second: each other choice of values in the set has a greater sum.
def values_above_in_set(first, second, members):
    variables = len(first) - 1
    least = least_values(members, variables)
    to_pass = least_of_row(second)
    found = []
    if first[0] > to_pass:
        found.append(least)
    for variable in range(variables):
        number = first[1 + variable]
        if number > second[1 + variable]:
            found.append(with_value(least, variable, max(1, to_pass + 1 - number)))
    return found


def values_above(first, second):
    found = []
    for members in range(len(first)):
        found.extend(values_above_in_set(first[members], second[members], members))
    return found


def order_of_values(values):
    return (sum(values), values)


def foremost(found):
    return min(found, key=order_of_values, default=None)


def first_values_above(first, second):
    return foremost(values_above(first, second))


def first_values_apart(first, second):
    return foremost(values_above(first, second) + values_above(second, first))
