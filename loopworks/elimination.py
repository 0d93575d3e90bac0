"""The elimination of a variable of a system: its cases, and how points are lifted."""

from math import lcm

from loopworks.errors import InvalidPoint
from loopworks.expressions import add, difference, multiply, value_at, with_constant_added
from loopworks.systems import System


class Elimination:
    """How the variable k of a system is eliminated.

    The rule is the number, from 1 to 5, of the way in which the cases are made. By the rules 1, 4
    and 5 they are made from pivots, pairs of an expression and a number of remainders: there is
    a case for each remainder, in which the expression less the remainder is 0.
    """

    def __init__(self, system, k):
        self.system = system
        self.k = k
        having = [row for row in system.rows if row[-1][k] != 0]
        self.others = [row for row in system.rows if row[-1][k] == 0]
        self.lowers = [row[-1] for row in having if row[0] == "ge" and row[-1][k] > 0]
        self.uppers = [row[-1] for row in having if row[0] == "ge" and row[-1][k] < 0]
        equations = [row[-1] for row in having if row[0] == "eq"]
        divisors = [row[1] for row in having if row[0] == "div"]
        self.period = common_multiple(divisors)
        self.rule = self.rule_for(len(equations) > 0, len(divisors) > 0)
        self.pivots = self.pivots_for(equations)

    def rule_for(self, has_equations, has_divisors):
        if has_equations:
            return 1
        a = [expression[self.k] for expression in self.lowers]
        b = [-expression[self.k] for expression in self.uppers]
        if not has_divisors and (max(a, default=1) == 1 or max(b, default=1) == 1):
            return 2
        if len(a) == 0 and len(b) == 0:
            return 3
        return 4 if len(b) == 0 or (len(a) > 0 and sum(a) <= sum(b)) else 5

    def pivots_for(self, equations):
        if self.rule == 1:
            return [(equations[0], 1)]
        if self.rule < 4:
            return []
        bounds = self.lowers if self.rule == 4 else self.uppers
        return [(bound, abs(bound[self.k]) * self.period) for bound in bounds]

    def count_cases(self):
        """The number of the cases."""
        if self.rule == 2:
            return 1
        if self.rule == 3:
            return self.period
        return sum([many for _, many in self.pivots])

    def count_joined(self):
        """The number of the constraints that the case by the rule 2 has before it is reduced."""
        return len(self.others) + len(self.lowers) * len(self.uppers)

    def case_at(self, index):
        """The case with this index, reduced."""
        if self.rule == 2:
            rows = self.joined_rows()
        elif self.rule == 3:
            rows = [changed(row, self.put_in(row[-1], index)) for row in self.system.rows]
        else:
            rows = self.solved_rows(self.equation_at(index))
        return System(self.system.variables - 1, rows).reduced()

    def joined_rows(self):
        """What does not have the variable, and each lower bound joined with each upper one."""
        rows = [changed(row, without(row[-1], self.k)) for row in self.others]
        for lower in self.lowers:
            for upper in self.uppers:
                joined = add(multiply(lower[self.k], upper), multiply(-upper[self.k], lower))
                rows.append(("ge", without(joined, self.k)))
        return rows

    def put_in(self, expression, value):
        """An expression over the other variables, with a value put in for the variable."""
        return with_constant_added(without(expression, self.k), value * expression[self.k])

    def equation_at(self, index):
        """The expression that is 0 in the case with this index, by the rules 1, 4 and 5."""
        at = 0
        remainder = index
        while remainder >= self.pivots[at][1]:
            remainder -= self.pivots[at][1]
            at += 1
        return with_constant_added(self.pivots[at][0], -remainder)

    def solved_rows(self, equation):
        """The constraints of the system in which an expression that has the variable is 0."""
        a = equation[self.k]
        rest = without(equation, self.k)
        rows = [("div", abs(a), rest)]
        for row in self.system.rows:
            factor = row[-1][self.k] if a > 0 else -row[-1][self.k]
            scaled = multiply(abs(a), without(row[-1], self.k))
            head = row[:-1] if row[0] != "div" else ("div", row[1] * abs(a))
            rows.append(head + (difference(scaled, multiply(factor, rest)),))
        return rows

    def value_for(self, index, point):
        """The value of the variable that makes a point of a case one of the system."""
        if self.rule == 2:
            return self.value_between(point)
        if self.rule == 3:
            return index
        equation = self.equation_at(index)
        return -value_at(without(equation, self.k), point) // equation[self.k]

    def value_between(self, point):
        """A value between the bounds, which are rounded towards one another."""
        least = [
            -(value_at(without(bound, self.k), point) // bound[self.k]) for bound in self.lowers
        ]
        greatest = [
            value_at(without(bound, self.k), point) // -bound[self.k] for bound in self.uppers
        ]
        if len(least) > 0:
            return max(least)
        return min(greatest, default=0)


def without(expression, k):
    """An expression without the variable k, over the other variables."""
    return expression[:k] + expression[k + 1:]


def changed(row, expression):
    """A constraint of the same kind with another expression."""
    return row[:-1] + (expression,)


def common_multiple(numbers):
    """The least common multiple; 1 if there are no numbers."""
    found = 1
    for number in numbers:
        found = lcm(found, number)
    return found


def cases(system, k):
    """The cases of the elimination of the variable k, a tuple of systems."""
    elimination = Elimination(system, k)
    return tuple([elimination.case_at(index) for index in range(elimination.count_cases())])


def case_count(system, k):
    """The number of the cases, without making them."""
    return Elimination(system, k).count_cases()


def lift(system, k, index, point):
    """The point of the system that a point of the case with this index becomes."""
    elimination = Elimination(system, k)
    if not 0 <= index < elimination.count_cases() or point not in elimination.case_at(index):
        raise InvalidPoint("the point is no point of the case")
    return point[:k] + (elimination.value_for(index, point),) + point[k:]
