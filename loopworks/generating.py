"""Generating the loops that execute a program in the order of a schedule."""

from loopworks.codes import Code
from loopworks.conditions import (
    conditions_of, conditions_up_to, least_form, placed, reduced, statement_conditions,
)
from loopworks.errors import TooGreat
from loopworks.expressions import add, difference, multiply, with_more_variables

GREATEST_NUMBER = 999999999


class Around:
    """What is around a place in code: the number of its variables, and the known conditions."""

    def __init__(self, variables, known):
        self.variables = variables
        self.known = known

    def iterator(self):
        """The expression that is the iterator of a loop at this place, within it."""
        return (0,) * self.variables + (1, 0)

    def within(self, lowers, uppers):
        """What is around the body of a loop with these lists of bounds."""
        known = list(self.known)
        if len(lowers) == 1:
            known.extend([reduced(multiply(-1, self.beside(bound))) for bound in lowers[0]])
        if len(uppers) == 1:
            known.extend([reduced(self.beside(bound)) for bound in uppers[0]])
        return Around(self.variables + 1, known)

    def beside(self, bound):
        """How much a bound is greater than its divisor times the iterator."""
        expression, divisor = bound
        wide = with_more_variables(expression, self.variables + 1)
        return difference(wide, multiply(divisor, self.iterator()))

    def is_known(self, condition):
        """True if a known condition has the same coefficients, and a constant not greater."""
        wide = [with_more_variables(other, self.variables) for other in self.known]
        return any([
            other[:-1] == condition[:-1] and other[-1] <= condition[-1] for other in wide
        ])


class Hand:
    """A statement at hand, and the expressions that are chosen for its first variables.

    They are over the parameters and the iterators at the place where they were chosen.
    """

    def __init__(self, program, schedule, number, chosen):
        self.program = program
        self.schedule = schedule
        self.number = number
        self.chosen = chosen
        self.loops_at = len(program.parameters) + len(schedule.marks)

    def choose(self, expression):
        """The same statement with an expression for its next variable."""
        return Hand(self.program, self.schedule, self.number, self.chosen + (expression,))

    def is_complete(self):
        """True if all variables are chosen."""
        return len(self.chosen) == self.loops_at + len(self.program.statements[self.number].loops)

    def row(self, at):
        """The row with this number, a pair of an expression and a divisor."""
        return self.schedule.rows[self.number][at]

    def in_place(self, expression, variables):
        """An expression over the variables of the statement, over so many variables of code."""
        total = (0,) * variables + expression[-1:]
        for factor, value in zip(expression, self.chosen):
            total = add(total, multiply(factor, with_more_variables(value, variables)))
        return total

    def bounds(self, variables):
        """The list of lower and that of upper bounds of the variable that is next."""
        at = len(self.chosen)
        lowers = []
        uppers = []
        for condition in conditions_up_to(self.program, self.schedule, self.number, at):
            rest = self.in_place(condition, variables)
            if condition[at] > 0:
                lowers.append((multiply(-1, rest), condition[at]))
            if condition[at] < 0:
                uppers.append((rest, -condition[at]))
        return tuple(lowers), tuple(uppers)

    def guards(self, around):
        """The constraints that the code around leaves to be looked at."""
        found = least_form([
            self.in_place(condition, around.variables)
            for condition in statement_conditions(self.program, self.schedule, self.number)
        ])
        guards = [("ge", condition) for condition in found if not around.is_known(condition)]
        for condition in self.program.statements[self.number].conditions:
            if condition[0] == "div":
                expression = placed(self.program, self.schedule, self.number, condition[2])
                guards.append(condition[:2] + (self.in_place(expression, around.variables),))
        return tuple(guards)

    def instance_item(self, variables):
        """The item that executes the statement, over so many variables."""
        chosen = self.chosen[self.loops_at:]
        return ("statement", self.number, tuple([
            with_more_variables(value, variables) for value in chosen
        ]))


def generate(program, schedule):
    """The generated code of a program and a schedule."""
    count = len(program.parameters)
    parameters = tuple([(0,) * at + (1,) + (0,) * (count - at) for at in range(count)])
    hands = [
        Hand(program, schedule, number, parameters) for number in range(len(program.statements))
    ]
    around = Around(count, least_form(conditions_of(program.context)))
    body = body_from(0, schedule.marks, hands, around)
    if any([abs(number) > GREATEST_NUMBER for number in numbers_of_body(body)]):
        raise TooGreat("a number in the code is too great")
    return Code(program, body)


def body_from(row, marks, hands, around):
    """The body from a row on for the statements at hand."""
    if row == len(marks):
        return with_mark(False, [statement_item(hand, around) for hand in hands])
    values = row_values(row, hands)
    if len(values) < len(hands):
        return with_mark(marks[row], [loop_over_row(row, marks, hands, around)])
    bodies = []
    for value in sorted(set(values)):
        number = (0,) * around.variables + (value,)
        chosen = [hand.choose(number) for hand, other in zip(hands, values) if other == value]
        bodies.append(body_from(row + 1, marks, chosen, around))
    if len(bodies) == 1:
        return bodies[0]
    return with_mark(marks[row], [item_of(body) for body in bodies])


def with_mark(mark, items):
    """A body of items with a mark behind each of them but the last one."""
    last = len(items) - 1
    return tuple([(item, mark or at == last) for at, item in enumerate(items)])


def item_of(body):
    """An item that executes a body."""
    return body[0][0] if len(body) == 1 else ("if", (), body)


def row_values(row, hands):
    """The values of a row for the statements at hand for which it is constant."""
    rows = [hand.row(row) for hand in hands]
    return [
        expression[-1] // divisor for expression, divisor in rows
        if all([number == 0 for number in expression[:-1]])
    ]


def loop_over_row(row, marks, hands, around):
    """The loop over the times of the statements at hand in a row."""
    bounds = [hand.bounds(around.variables) for hand in hands]
    lowers = needed_lists([lower for lower, _ in bounds], 1)
    uppers = needed_lists([upper for _, upper in bounds], -1)
    chosen = [hand.choose(around.iterator()) for hand in hands]
    body = body_from(row + 1, marks, chosen, around.within(lowers, uppers))
    return ("loop", marks[row], lowers, uppers, body)


def needed_lists(lists, sign):
    """The lists of bounds that no other one makes needless; the sign is 1 for lower bounds."""
    kept = []
    for bounds in lists:
        if not any([makes_needless(other, bounds, sign) for other in kept]):
            kept = [other for other in kept if not makes_needless(bounds, other, sign)] + [bounds]
    return tuple(kept)


def makes_needless(one, other, sign):
    """True if no value that the other list of bounds allows is beyond those of the first one."""
    return all([
        any([is_within(bound, limit, sign) for bound in other]) for limit in one
    ])


def is_within(bound, limit, sign):
    """True if a bound differs from the other one at most by a constant, towards the inside."""
    if bound[0][:-1] != limit[0][:-1] or bound[1] != limit[1]:
        return False
    return sign * (bound[0][-1] - limit[0][-1]) >= 0


def statement_item(hand, around):
    """The item for a statement whose times are chosen."""
    if hand.is_complete():
        statement = hand.instance_item(around.variables)
        guards = hand.guards(around)
        return statement if len(guards) == 0 else ("if", guards, ((statement, True),))
    lowers, uppers = hand.bounds(around.variables)
    for bound in lowers:
        if bound[1] == 1 and bound in uppers:
            return statement_item(hand.choose(bound[0]), around)
    within = around.within((lowers,), (uppers,))
    item = statement_item(hand.choose(around.iterator()), within)
    return ("loop", False, (lowers,), (uppers,), ((item, True),))


def numbers_of_body(body):
    """All numbers in a body: coefficients, constants and divisors."""
    found = []
    for item, _ in body:
        if item[0] == "loop":
            for bounds in item[2] + item[3]:
                for expression, divisor in bounds:
                    found.extend(expression + (divisor,))
            found.extend(numbers_of_body(item[4]))
        elif item[0] == "if":
            for constraint in item[1]:
                found.extend(constraint[1:-1] + constraint[-1])
            found.extend(numbers_of_body(item[2]))
        else:
            for expression in item[2]:
                found.extend(expression)
    return found
