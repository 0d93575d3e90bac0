"""Conditions, expressions that are at least 0, from which the bounds of generated loops come."""

from loopworks.expressions import (
    add, difference, multiply, with_constant_added, with_more_variables,
)
from loopworks.systems import common_divisor, divided

MOST_ELIMINATED = 64
# The places of the bounds in the tuples of loops.
LOWERS = 1
UPPERS = 2


def reduced(condition):
    """A condition divided by the greatest common divisor of its coefficients."""
    divisor = common_divisor(0, condition[:-1])
    return condition if divisor == 0 else divided(condition, divisor)


def least_form(conditions):
    """The conditions reduced, without those that follow from another one or always hold."""
    places = {}
    found = []
    for condition in conditions:
        least = reduced(condition)
        place = places.setdefault(least[:-1], len(found))
        if place == len(found):
            found.append(least)
        else:
            # Only the constants differ.
            found[place] = min(found[place], least)
    return [condition for condition in found if not always_holds(condition)]


def always_holds(condition):
    return condition[-1] >= 0 and all([number == 0 for number in condition[:-1]])


def eliminate(conditions, index):
    """The conditions without the variable with this index, which gets the coefficient 0."""
    others = [condition for condition in conditions if condition[index] == 0]
    lowers = [condition for condition in conditions if condition[index] > 0]
    uppers = [condition for condition in conditions if condition[index] < 0]
    if len(others) + len(lowers) * len(uppers) > MOST_ELIMINATED:
        return least_form(others)
    return least_form(others + [
        add(multiply(-upper[index], lower), multiply(lower[index], upper))
        for lower in lowers for upper in uppers
    ])


def conditions_of(constraints):
    """The conditions that constraints are, without those of the kind "div"."""
    found = []
    for constraint in constraints:
        if constraint[0] != "div":
            found.append(constraint[-1])
        if constraint[0] == "eq":
            found.append(multiply(-1, constraint[-1]))
    return found


class Layout:
    """Where the variables of a statement stand: the parameters, the times, the loops."""

    def __init__(self, program, schedule, number):
        statement = program.statements[number]
        self.loops = [program.loops[loop] for loop in statement.loops]
        self.conditions = statement.conditions
        self.lines = schedule.rows[number]
        self.parameters = len(program.parameters)
        self.loops_at = self.parameters + len(self.lines)
        self.variables = self.loops_at + len(self.loops)

    def unit(self, at):
        """The expression that is the variable at a place."""
        return (0,) * at + (1,) + (0,) * (self.variables - at)

    def placed(self, expression):
        """An expression over the parameters and the first loops, over all variables."""
        wide = with_more_variables(expression, self.parameters + len(self.loops))
        times = (0,) * len(self.lines)
        return wide[:self.parameters] + times + wide[self.parameters:]

    def estimate(self, expression, first, other):
        """An expression over the parameters and loops, with bounds in the place of the loops.

        Where the coefficient is at least 0, it is the first of the bounds at the place first in
        the tuple of the loop, and otherwise of those at the place other.
        """
        for at in range(len(self.loops) - 1, -1, -1):
            factor = expression[self.parameters + at]
            bounds = self.loops[at][first if factor >= 0 else other]
            bound = with_more_variables(bounds[0], len(expression) - 1)
            ahead = expression[:self.parameters + at] + (0,)
            kept = ahead + expression[len(ahead):]
            expression = add(kept, multiply(factor, bound))
        return self.placed(expression)


def statement_conditions(program, schedule, number):
    """The conditions of a statement, over its variables."""
    layout = Layout(program, schedule, number)
    found = []
    for at, (expression, divisor) in enumerate(layout.lines):
        value = layout.placed(expression)
        found.extend(time_conditions(layout, at, divisor, value, value))
    for at, (_, lowers, uppers, _) in enumerate(layout.loops):
        value = layout.unit(layout.loops_at + at)
        found.extend([difference(value, layout.placed(bound)) for bound in lowers])
        found.extend([difference(layout.placed(bound), value) for bound in uppers])
    found.extend([layout.placed(condition) for condition in conditions_of(layout.conditions)])
    return found


def placed(program, schedule, number, expression):
    """An expression over the parameters and loops of a statement, over its variables."""
    return Layout(program, schedule, number).placed(expression)


def time_conditions(layout, at, divisor, greatest, least):
    """The conditions that a time is that of a value between the least and the greatest one."""
    product = multiply(divisor, layout.unit(layout.parameters + at))
    above = with_constant_added(difference(product, least), divisor - 1)
    return [difference(greatest, product), above]


def estimates(program, schedule, number):
    """Conditions of the times of a statement, in which its loops are replaced by bounds."""
    layout = Layout(program, schedule, number)
    found = []
    for at, (expression, divisor) in enumerate(layout.lines):
        greatest = layout.estimate(expression, UPPERS, LOWERS)
        least = layout.estimate(expression, LOWERS, UPPERS)
        found.extend(time_conditions(layout, at, divisor, greatest, least))
    return found


def conditions_up_to(program, schedule, number, index):
    """The conditions of a statement without the variables behind the one with this index."""
    found = statement_conditions(program, schedule, number)
    found = least_form(found + estimates(program, schedule, number))
    for behind in range(Layout(program, schedule, number).variables - 1, index, -1):
        found = eliminate(found, behind)
    return found
