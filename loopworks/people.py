"""The instances that an ask is about, its people, and the clauses that say how they stand."""

from loopworks.expressions import at_least, difference, equal, less, multiply, with_constant_added


class Person:
    """An instance of a statement, whose loops and times are among so many variables.

    The variables of its loops and those of its times begin at the places that are given.
    """

    def __init__(self, program, number, variables, loops_at, times_at):
        self.program = program
        self.number = number
        self.variables = variables
        self.loops_at = loops_at
        self.times_at = times_at
        self.loops = program.statements[number].loops

    def variable(self, at):
        """The expression that is one of the variables."""
        return (0,) * at + (1,) + (0,) * (self.variables - at)

    def loop(self, at):
        return self.variable(self.loops_at + at)

    def row(self, at):
        return self.variable(self.times_at + at)

    def placed(self, expression):
        """An expression over the parameters and loops of the instance, over all variables."""
        parameters = len(self.program.parameters)
        ahead = (0,) * (self.loops_at - parameters)
        behind = (0,) * (self.variables + 1 - len(ahead) - len(expression))
        return expression[:parameters] + ahead + expression[parameters:-1] + behind + expression[-1:]

    def cell(self, read):
        """The index of the read with this number, or of the write if it is None."""
        access = self.access(read)
        return [self.placed(expression) for expression in access[1]]

    def access(self, read):
        statement = self.program.statements[self.number]
        return statement.write if read is None else statement.reads[read]

    def constraints(self):
        """What the loops and the conditions of the statement ask."""
        found = []
        for at, number in enumerate(self.loops):
            _, lowers, uppers, _ = self.program.loops[number]
            found.extend([at_least(self.loop(at), self.placed(bound)) for bound in lowers])
            found.extend([at_least(self.placed(bound), self.loop(at)) for bound in uppers])
        for condition in self.program.statements[self.number].conditions:
            found.append(condition[:-1] + (self.placed(condition[-1]),))
        return tuple(found)

    def time_constraints(self, rows):
        """What says that the times are those of the rows of the statement."""
        found = []
        for at, (expression, divisor) in enumerate(rows):
            value = self.placed(expression)
            product = multiply(divisor, self.row(at))
            found.append(at_least(value, product))
            found.append(("ge", with_constant_added(difference(product, value), divisor - 1)))
        return tuple(found)


def same_index(one, other):
    """The clause that two indexes are the same."""
    return (tuple([equal(a, b) for a, b in zip(one, other)]),)


def same_place(numbers, one, other):
    """The clause that two indexes have the same place, by the numbers of the folding."""
    return (tuple([
        equal(a, b) if m == 0 else ("div", m, difference(a, b))
        for m, a, b in zip(numbers, one, other)
    ]),)


def moved(numbers, cell):
    """The clause that an index is not its own place."""
    found = []
    for m, value in zip(numbers, cell):
        if m > 0:
            found.append((("ge", with_constant_added(multiply(-1, value), -1)),))
            found.append((("ge", with_constant_added(value, -m)),))
    return tuple(found)


def earlier(u, v):
    """The clause that the program executes u ahead of v."""
    found = []
    equalities = ()
    for at in range(len([loop for loop in u.loops if loop in v.loops])):
        found.append(equalities + (less(u.loop(at), v.loop(at)),))
        equalities = equalities + (equal(u.loop(at), v.loop(at)),)
    if u.number < v.number:
        found.append(equalities)
    return tuple(found)


def not_before(marks, u, v):
    """The clause that u is not before v, by the rows with these marks."""
    found = []
    equalities = ()
    for at, sequential in enumerate(marks):
        if not sequential:
            found.append(equalities + (less(u.row(at), v.row(at)),))
        found.append(equalities + (less(v.row(at), u.row(at)),))
        equalities = equalities + (equal(u.row(at), v.row(at)),)
    found.append(equalities)
    return tuple(found)


def apart(u, v):
    """The clauses that u and v are different instances: one, or none if their statements differ."""
    if u.number != v.number:
        return ()
    found = []
    for at in range(len(u.loops)):
        found.append((less(u.loop(at), v.loop(at)),))
        found.append((less(v.loop(at), u.loop(at)),))
    return (tuple(found),)
