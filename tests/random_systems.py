"""Random systems, and what their points are by going through all of a box."""

from itertools import product

from loopworks.expressions import all_hold
from loopworks.systems import System


def random_expression(chance, variables, most):
    numbers = [chance.choice([0, 0, chance.randint(-most, most)]) for _ in range(variables)]
    return tuple(numbers) + (chance.randint(-2 * most, 2 * most),)


def random_constraint(chance, variables, most=4, kinds=("ge", "ge", "ge", "eq", "div")):
    expression = random_expression(chance, variables, most)
    kind = chance.choice(kinds)
    if kind == "div":
        return ("div", chance.randint(1, 6), expression)
    return (kind, expression)


def random_system(chance, variables, count, most=4, kinds=("ge", "ge", "ge", "eq", "div")):
    rows = [random_constraint(chance, variables, most, kinds) for _ in range(count)]
    return System(variables, rows)


def box(variables, size):
    return list(product(range(-size, size + 1), repeat=variables))


def points_in_box(system, size):
    """The points of a system in a box, found without the system's own methods."""
    return [point for point in box(system.variables, size) if all_hold(system.rows, point)]
