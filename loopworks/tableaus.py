"""Tableaus: whether inequalities hold together over the rational numbers, and where.

All numbers are integers: the rows of a tableau have one denominator in common, its scale.
"""

from loopworks.systems import common_divisor

# So many exchanges are made where most is missing; behind them, it is made sure that they end.
GREEDY_EXCHANGES = 60


class Tableau:
    """Inequalities, expressions over free variables that must be at least 0, solved step by step.

    Free variables have the numbers from 0 on, the values of the inequalities those behind. At
    each moment some of all these are 0, those of the columns; each row has the multiples of
    them that its own variable is, and behind them a constant, all of them times the scale.
    """

    def __init__(self, free, expressions):
        self.free = free
        self.scale = 1
        self.exchanges = 0
        self.columns = list(range(free))
        self.basic = [free + at for at in range(len(expressions))]
        self.lines = [list(expression) for expression in expressions]

    def twin(self):
        """A tableau that is equal, and changes on its own."""
        other = Tableau(self.free, [])
        other.scale = self.scale
        other.exchanges = self.exchanges
        other.columns = list(self.columns)
        other.basic = list(self.basic)
        other.lines = list(self.lines)
        return other

    def find_conflict(self):
        """Make all inequalities hold; the number of a row that shows that they cannot, or None."""
        at = self.worst_line()
        while at is not None:
            column = self.column_for(self.lines[at])
            if column is None:
                return at
            self.exchange(at, column)
            at = self.worst_line()
        return None

    def worst_line(self):
        """The row of a variable that must not be negative and is, or None."""
        worst = [
            (line[-1] if self.exchanges < GREEDY_EXCHANGES else 0, self.basic[at], at)
            for at, line in enumerate(self.lines)
            if line[-1] < 0 and self.basic[at] >= self.free
        ]
        return min(worst)[2] if len(worst) > 0 else None

    def column_for(self, line):
        """The column of the first variable by which the value of a row can grow, or None."""
        found = None
        for at, variable in enumerate(self.columns):
            if line[at] > 0 or (line[at] < 0 and variable < self.free):
                if found is None or variable < self.columns[found]:
                    found = at
        return found

    def exchange(self, at, column):
        """Solve a row for the variable of a column, which gets a row in its place."""
        pivot = self.lines[at][column]
        solved = [-number for number in self.lines[at]]
        solved[column] = self.scale
        if pivot < 0:
            solved = [-number for number in solved]
        self.lines = [
            solved if number == at else self.replaced(line, column, solved, abs(pivot))
            for number, line in enumerate(self.lines)
        ]
        self.scale = abs(pivot)
        self.exchanges += 1
        leaving = self.basic[at]
        self.basic[at] = self.columns[column]
        self.columns[column] = leaving

    def replaced(self, line, column, solved, scale):
        """A row in which the variable of a column is replaced by what it is by the solved row."""
        factor = line[column]
        if factor == 0 and scale == self.scale:
            return line
        # The division leaves no remainder, as all numbers are determinants.
        numbers = [
            (scale * number + factor * other) // self.scale for number, other in zip(line, solved)
        ]
        numbers[column] = factor * solved[column] // self.scale
        return numbers

    def line_of(self, variable):
        """The row of a free variable, which may stand in a column."""
        if variable in self.basic:
            return self.lines[self.basic.index(variable)]
        return [self.scale if other == variable else 0 for other in self.columns] + [0]

    def limit(self, variable, sign, number):
        """Add the inequality that the sign times a free variable, and a number, are at least 0."""
        line = [sign * value for value in self.line_of(variable)]
        line[-1] += number * self.scale
        self.basic.append(self.free + len(self.lines))
        self.lines.append(line)

    def fix(self, variable, value):
        """Give a free variable a value; True if all inequalities can hold then."""
        self.limit(variable, 1, -value)
        self.limit(variable, -1, value)
        return self.find_conflict() is None

    def numerators(self):
        """The values of the free variables, times the scale."""
        return [self.line_of(variable)[-1] for variable in range(self.free)]

    def multipliers(self, at):
        """The multiples of the inequalities that give a negative number, by a row in conflict."""
        found = [0] * len(self.lines)
        for variable, number in zip(self.columns, self.lines[at]):
            if variable >= self.free:
                found[variable - self.free] = -number
        found[self.basic[at] - self.free] = self.scale
        divisor = common_divisor(0, found)
        return [number // divisor for number in found]

    def whole_values(self):
        """Integers for the free variables by which the inequalities hold, or None if none is found.

        The inequalities hold over the rational numbers. One variable after the other is made an
        integer beside its value, so what is there may be missed.
        """
        current = self.twin()
        for _ in range(self.free + 1):
            numerators = current.numerators()
            broken = [at for at, number in enumerate(numerators) if number % current.scale != 0]
            if len(broken) == 0:
                return [number // current.scale for number in numerators]
            # The quotients of divisions stand last, and the others follow from them rather than
            # the other way round.
            value = numerators[broken[-1]] // current.scale
            other = current.twin()
            if not current.fix(broken[-1], value):
                current = other
                if not current.fix(broken[-1], value + 1):
                    return None
        return None
