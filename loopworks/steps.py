"""Steps that replace a system by systems, and refutations."""

from loopworks.elimination import Elimination, cases
from loopworks.errors import StepFails, TooGreat, TooMany
from loopworks.expressions import add, multiply, with_constant_added
from loopworks.systems import divided, is_integer, is_tuple_of_integers

MOST_CASES = 200
MOST_JOINED = 4000
MOST_VARIABLES = 40
MOST_WEIGHT = 4000
GREATEST = 1000000000000000000


def apply_step(system, step):
    """The systems that replace a system by a step."""
    return remaining(system, (step,))


def remaining(system, steps):
    """The systems that are left behind steps."""
    return left_behind((system,), steps, made_by)


def left_behind(left, steps, make):
    """The systems that are left of some behind steps.

    What a step makes of a system, or None, is what make returns for both.
    """
    for index, step in enumerate(steps):
        made = make(left[0], step) if len(left) > 0 else None
        if made is None:
            raise StepFails(index)
        left = made + left[1:]
        check_left(left)
        check_numbers(made)
    return left


def refutes(system, steps):
    """True if the steps refute the system."""
    try:
        return len(remaining(system, steps)) == 0
    except StepFails:
        return False


def made_by(system, step):
    """The systems that a step makes of a system, or None if it cannot be taken."""
    if not isinstance(step, tuple) or len(step) == 0:
        return None
    if step == ("close",):
        return closed(system)
    if step[0] == "add" and len(step) == 3:
        return added(system, step[1], step[2])
    if step[0] == "split" and len(step) == 2:
        return split_by(system, step[1])
    if step[0] == "cases" and len(step) == 2:
        return split_into_cases(system, step[1])
    return None


def closed(system):
    # A system without variables in which some constraint does not hold is impossible if reduced.
    return () if system.reduced().is_impossible else None


def added(system, multipliers, divisor):
    if not are_multipliers(system, multipliers) or not is_integer(divisor) or divisor < 1:
        return None
    total = (0,) * (system.variables + 1)
    for multiplier, row in zip(multipliers, system.rows):
        total = add(total, multiply(multiplier, row[-1]))
    if any([number % divisor != 0 for number in total[:-1]]):
        return None
    return (system + ("ge", divided(total, divisor)),)


def are_multipliers(system, multipliers):
    """True if a value is a tuple of multipliers for the first constraints of a system."""
    if not isinstance(multipliers, tuple) or len(multipliers) > len(system.rows):
        return False
    return all([
        is_multiplier(row[0], multiplier) for row, multiplier in zip(system.rows, multipliers)
    ])


def is_multiplier(kind, multiplier):
    if not is_integer(multiplier):
        return False
    if kind == "ge":
        return multiplier >= 0
    return kind == "eq" or multiplier == 0


def split_by(system, expression):
    if not is_tuple_of_integers(expression, system.variables + 1):
        return None
    opposite = with_constant_added(multiply(-1, expression), -1)
    return (system + ("ge", expression), system + ("ge", opposite))


def split_into_cases(system, k):
    if not is_integer(k) or not 0 <= k < system.variables:
        return None
    check_case_counts(system, k)
    return cases(system, k)


def check_case_counts(system, k):
    """Raise TooMany if the elimination of a variable would make too much."""
    elimination = Elimination(system, k)
    if elimination.count_cases() > MOST_CASES:
        raise TooMany("there would be too many cases")
    if elimination.rule == 2 and elimination.count_joined() > MOST_JOINED:
        raise TooMany("a case would have too many constraints")


def check_left(systems):
    """Raise TooMany if systems that are left are too many or have too much in them."""
    if any([system.variables > MOST_VARIABLES for system in systems]):
        raise TooMany("a system has too many variables")
    if sum([system.weight for system in systems]) > MOST_WEIGHT:
        raise TooMany("the systems have too many constraints")


def check_numbers(systems):
    """Raise TooGreat if a number in the systems is too great."""
    for system in systems:
        for row in system.rows:
            if any([abs(number) > GREATEST for number in row[1:-1] + row[-1]]):
                raise TooGreat("a number in a system is too great")
