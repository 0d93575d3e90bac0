"""Derivations: steps that show that an ask has no point."""

from loopworks.asks import asks_of
from loopworks.elimination import cases
from loopworks.errors import StepFails, TooMany
from loopworks.expressions import (
    add, at_least, difference, multiply, with_constant_added, with_more_variables,
)
from loopworks.programs import widened
from loopworks.steps import MOST_WEIGHT, check_case_counts, check_numbers, left_behind, refutes
from loopworks.systems import System, is_integer, is_tuple_of_integers


def failures(constraint):
    """The constraints of which one holds exactly where the given one does not."""
    expression = constraint[-1]
    below = ("ge", with_constant_added(multiply(-1, expression), -1))
    if constraint[0] == "ge":
        return [below]
    if constraint[0] == "eq":
        return [("ge", with_constant_added(expression, -1)), below]
    return [
        ("div", constraint[1], with_constant_added(expression, -remainder))
        for remainder in range(1, constraint[1])
    ]


def start_of(ask):
    """The system that is left at first."""
    return System(ask.variables, ())


def apply_ask_step(ask, system, step):
    """The systems that replace a system by a step of a derivation."""
    return left_behind_ask_steps(ask, (system,), (step,))


def left_behind_ask_steps(ask, left, steps):
    """The systems that are left of some behind steps of a derivation."""
    return left_behind(left, steps, lambda system, step: made_for_ask(ask, system, step))


def settles(ask, steps):
    """True if the steps are a derivation that settles the ask."""
    try:
        return len(left_behind_ask_steps(ask, (start_of(ask),), steps)) == 0
    except StepFails:
        return False


def accepts(program, schedule, derivations, *, folding=()):
    """True if there is one derivation for each ask, which settles it."""
    asks = asks_of(program, schedule, folding=folding)
    if len(derivations) != len(asks):
        return False
    for ask, steps in zip(asks, derivations):
        if not settles(ask, steps):
            return False
    return True


def made_for_ask(ask, system, step):
    """The systems that a step makes of a system, or None if it cannot be taken."""
    if not isinstance(step, tuple) or len(step) == 0:
        return None
    if step[0] == "close" and len(step) == 2:
        return closed_by(system, step[1])
    if step[0] == "choose" and len(step) == 2:
        return chosen_from(ask, system, step[1])
    if step[0] == "quotient" and len(step) == 3:
        return with_quotient(system, step[1], step[2])
    if step[0] == "witness" and len(step) == 4:
        return failing_witness(ask, system, step)
    if step[0] == "eliminate" and len(step) == 4:
        return failing_elimination(ask, system, step)
    return None


def closed_by(system, steps):
    return () if isinstance(steps, tuple) and refutes(system, steps) else None


def chosen_from(ask, system, k):
    if not is_number_of(k, ask.clauses):
        return None
    return tuple([
        System(system.variables, widened(rows, system.variables) + system.rows)
        for rows in ask.clauses[k]
    ])


def is_number_of(value, things):
    """True if a value is the number of one of the things."""
    return is_integer(value) and 0 <= value < len(things)


def with_quotient(system, expression, divisor):
    if not is_tuple_of_integers(expression, system.variables + 1):
        return None
    if not is_integer(divisor) or divisor < 1:
        return None
    variables = system.variables + 1
    value = with_more_variables(expression, variables)
    product = (0,) * system.variables + (divisor, 0)
    remainder = with_constant_added(difference(product, value), divisor - 1)
    rows = (at_least(value, product), ("ge", remainder))
    return (System(variables, rows + widened(system.rows, variables)),)


def picked_rows(ask, k, picks):
    """The constraints of the alternatives that are picked of a hidden entry, or None."""
    if not is_number_of(k, ask.hidden) or not isinstance(picks, tuple):
        return None
    clauses = ask.hidden[k][1]
    if len(picks) != len(clauses):
        return None
    rows = ()
    for pick, clause in zip(picks, clauses):
        if not is_number_of(pick, clause):
            return None
        rows = rows + clause[pick]
    return rows


def failing_witness(ask, system, step):
    _, k, picks, values = step
    rows = picked_rows(ask, k, picks)
    if rows is None or not isinstance(values, tuple) or len(values) != ask.hidden[k][0]:
        return None
    if not all([is_tuple_of_integers(value, system.variables + 1) for value in values]):
        return None
    return failing(system, [
        row[:-1] + (with_values(row[-1], ask.variables, values, system.variables),)
        for row in rows
    ])


def with_values(expression, count, values, variables):
    """An expression with values in the place of its variables behind the first ones.

    The result is over so many variables, of which the first ones stay.
    """
    kept = expression[:count] + expression[-1:]
    total = with_more_variables(kept, variables)
    for factor, value in zip(expression[count:-1], values):
        total = add(total, multiply(factor, value))
    return total


def failing_elimination(ask, system, step):
    _, k, picks, j = step
    systems = eliminated_systems(ask, k, picks)
    if systems is None or not is_number_of(j, systems):
        return None
    return failing(system, widened(systems[j].rows, system.variables))


def eliminated_systems(ask, k, picks):
    """What alternatives of a hidden entry ask of the ask's own variables, or None.

    At least one of the systems has a point exactly if the alternatives have one with some
    values of the further variables.
    """
    rows = picked_rows(ask, k, picks)
    if rows is None:
        return None
    variables = ask.variables + ask.hidden[k][0]
    systems = [System(variables, rows)]
    while variables > ask.variables:
        variables -= 1
        systems = all_cases(systems, variables)
    return systems


def all_cases(systems, k):
    """The cases of all systems, within the limits."""
    for system in systems:
        check_case_counts(system, k)
    found = []
    weight = 0
    for system in systems:
        for case in cases(system, k):
            found.append(case)
            weight += case.weight
        if weight > MOST_WEIGHT:
            raise TooMany("the systems have too many constraints")
    check_numbers(found)
    return found


def failing(system, constraints):
    """A system for each failure of each constraint."""
    # They are counted before they are made, as a divisor may be very great.
    count = sum([failure_count(constraint) for constraint in constraints])
    if count * (system.weight + 1) > MOST_WEIGHT:
        raise TooMany("there would be too many systems")
    found = []
    for constraint in constraints:
        found.extend([system + failure for failure in failures(constraint)])
    return tuple(found)


def failure_count(constraint):
    if constraint[0] == "div":
        return constraint[1] - 1
    return 1 if constraint[0] == "ge" else 2
