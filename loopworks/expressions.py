"""Expressions, tuples of coefficients and a constant, and constraints over them."""


def value_at(expression, point):
    """The value of an expression at a point."""
    products = [coefficient * value for coefficient, value in zip(expression, point)]
    return sum(products) + expression[-1]


def holds(constraint, point):
    """True if a constraint holds at a point."""
    value = value_at(constraint[-1], point)
    if constraint[0] == "ge":
        return value >= 0
    if constraint[0] == "eq":
        return value == 0
    return value % constraint[1] == 0


def all_hold(constraints, point):
    """True if all constraints hold at a point."""
    return all([holds(constraint, point) for constraint in constraints])


def add(one, other):
    """The sum of two expressions over the same variables."""
    return tuple([a + b for a, b in zip(one, other)])


def multiply(factor, expression):
    """A multiple of an expression."""
    return tuple([factor * number for number in expression])


def difference(one, other):
    return tuple([a - b for a, b in zip(one, other)])


def with_constant_added(expression, number):
    return expression[:-1] + (expression[-1] + number,)


def at_least(one, other):
    """The constraint that the value of one expression is at least that of the other one."""
    return ("ge", difference(one, other))


def less(one, other):
    """The constraint that the value of one expression is less than that of the other one."""
    return ("ge", with_constant_added(difference(other, one), -1))


def equal(one, other):
    """The constraint that two expressions have the same value."""
    return ("eq", difference(one, other))


def with_more_variables(expression, count):
    """An expression as one over count variables, the new ones behind those that it has."""
    missing = count + 1 - len(expression)
    return expression[:-1] + (0,) * missing + expression[-1:]
