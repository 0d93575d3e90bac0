"""Systems: constraints that are to hold together, and their reduced form."""

from math import gcd

from loopworks.errors import InvalidSystem
from loopworks.expressions import all_hold


class System:
    """Constraints over a number of variables."""

    def __init__(self, variables, rows):
        if not all([is_constraint(row, variables) for row in rows]):
            raise InvalidSystem("a row of the system is no constraint over its variables")
        self.variables = variables
        self.rows = tuple(rows)

    def __eq__(self, other):
        return isinstance(other, System) and self.variables == other.variables and self.rows == other.rows

    def __len__(self):
        return len(self.rows)

    def __contains__(self, x):
        return is_tuple_of_integers(x, self.variables) and all_hold(self.rows, x)

    def __add__(self, other):
        return System(self.variables, (other,) + self.rows)

    @property
    def weight(self):
        """The number of the constraints, and 1 more."""
        return len(self.rows) + 1

    @property
    def is_impossible(self):
        """True if the impossible constraint is the only one."""
        return self.rows == (impossible(self.variables),)

    def reduced(self):
        """The reduced system, which has the same points."""
        return System(self.variables, reduced_rows(self.variables, self.rows))


def is_integer(value):
    return isinstance(value, int) and not isinstance(value, bool)


def is_tuple_of_integers(value, count):
    """True if a value is a tuple of so many integers."""
    if not isinstance(value, tuple) or len(value) != count:
        return False
    return all([is_integer(number) for number in value])


def is_constraint(row, variables):
    """True if a value is a constraint over so many variables."""
    if not isinstance(row, tuple) or len(row) < 2:
        return False
    if not is_tuple_of_integers(row[-1], variables + 1):
        return False
    if row[0] == "div":
        return len(row) == 3 and is_integer(row[1]) and row[1] >= 1
    return len(row) == 2 and row[0] in ("ge", "eq")


def impossible(variables):
    """The impossible constraint over so many variables."""
    return ("ge", (0,) * variables + (-1,))


def reduced_constraint(constraint):
    """The reduced constraint, or None if it is left out."""
    expression = constraint[-1]
    if constraint[0] == "div":
        return reduced_multiple(constraint[1], expression)
    divisor = common_divisor(0, expression[:-1])
    if constraint[0] == "ge":
        return reduced_inequality(divisor, expression)
    return reduced_equation(divisor, expression)


def reduced_inequality(divisor, expression):
    if divisor > 0:
        return ("ge", divided(expression, divisor))
    return None if expression[-1] >= 0 else impossible(len(expression) - 1)


def reduced_equation(divisor, expression):
    if divisor == 0 and expression[-1] == 0:
        return None
    if divisor == 0 or expression[-1] % divisor != 0:
        return impossible(len(expression) - 1)
    numbers = divided(expression, divisor)
    leading = [number for number in numbers[:-1] if number != 0][0]
    return ("eq", numbers if leading > 0 else tuple([-number for number in numbers]))


def reduced_multiple(m, expression):
    numbers = tuple([number % m for number in expression])
    divisor = common_divisor(m, numbers[:-1])
    if numbers[-1] % divisor != 0:
        return impossible(len(expression) - 1)
    return None if divisor == m else ("div", m // divisor, divided(numbers, divisor))


def common_divisor(first, numbers):
    """The greatest common divisor of a number and more of them; 0 if all are 0."""
    found = first
    for number in numbers:
        found = gcd(found, number)
    return found


def divided(expression, divisor):
    """All numbers of an expression divided, and rounded down."""
    return tuple([number // divisor for number in expression])


def reduced_rows(variables, rows):
    """The rows of the reduced system."""
    found = []
    places = {}
    for row in rows:
        reduced = reduced_constraint(row)
        if reduced == impossible(variables):
            return (reduced,)
        if reduced is not None:
            key = ("ge", reduced[1][:-1]) if reduced[0] == "ge" else reduced
            place = places.setdefault(key, len(found))
            if place == len(found):
                found.append(reduced)
            else:
                # Only the constants can differ: the constraint with the least one is the least.
                found[place] = min(found[place], reduced)
    return tuple(found)
