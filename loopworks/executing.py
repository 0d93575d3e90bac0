"""Executing code: its instances, and the paths on which they are executed."""

from loopworks.errors import TooMany
from loopworks.expressions import all_hold, value_at

MOST_VALUES = 10000


class Execution:
    """Code that is executed at sizes; the pairs of instances and paths are found one by one."""

    def __init__(self, code, sizes):
        self.found = []
        self.taken = 0
        self.run_body(code.body, sizes, ())

    def run_body(self, body, point, path):
        for item, sequential in body:
            self.run_item(item, point, path + ((sequential, 0),))
            path = path + ((sequential, 1),)

    def run_item(self, item, point, path):
        if item[0] == "loop":
            self.run_loop(item, point, path)
        elif item[0] == "statement":
            values = tuple([value_at(expression, point) for expression in item[2]])
            self.found.append(((item[1], values), path))
        elif all_hold(item[1], point):
            self.run_body(item[2], point, path)

    def run_loop(self, item, point, path):
        _, sequential, lowers, uppers, body = item
        first = min([max([lower_value(bound, point) for bound in bounds]) for bounds in lowers])
        last = max([min([upper_value(bound, point) for bound in bounds]) for bounds in uppers])
        self.taken += max(0, last - first + 1)
        if self.taken > MOST_VALUES:
            raise TooMany("the loops take too many values")
        for value in range(first, last + 1):
            self.run_body(body, point + (value,), path + ((sequential, value),))


def lower_value(bound, point):
    """The value of a lower bound, rounded up."""
    return -(-value_at(bound[0], point) // bound[1])


def upper_value(bound, point):
    """The value of an upper bound, rounded down."""
    return value_at(bound[0], point) // bound[1]


def executed(code, sizes):
    """The pairs (instance, path) that code executes at sizes, in the order of its text."""
    return Execution(code, sizes).found


def is_path_before(one, other):
    """True if a path is before another one of the same code."""
    for (sequential, value), (_, limit) in zip(one, other):
        if value != limit:
            return sequential and value < limit
    return False


def code_order(code, sizes):
    """The instances that code executes at sizes, in the order of its text."""
    return [x for x, _ in executed(code, sizes)]
