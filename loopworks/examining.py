"""Examining systems: a point of a system, or steps that refute it."""

from loopworks.elimination import Elimination, lift
from loopworks.errors import TooGreat, TooMany
from loopworks.expressions import multiply
from loopworks.steps import left_behind, made_by
from loopworks.tableaus import Tableau

MOST_EFFORT = 2000
# With more cases than these, a system is rather split in two.
FEW_CASES = 8
# A system with more numbers than these is not solved over the rational numbers.
MOST_NUMBERS = 100000


class Budget:
    """How many systems a search may still look at."""

    def __init__(self, effort):
        self.looks = min(effort, MOST_EFFORT)

    def spend(self):
        """Use up a look; False if there is none."""
        if self.looks == 0:
            return False
        self.looks -= 1
        return True


class Examination:
    """The systems that are left of one that is examined, and the steps up to there.

    The trail of a system says how its points become points of the one that is examined: it is
    None, or a tuple of a system, the variable that was eliminated from it, the index of the case
    and the trail of that system.
    """

    def __init__(self, system):
        self.left = (system,)
        self.trails = (None,)
        self.steps = ()

    def take(self, steps):
        """Take steps if they are within the limits; True if they are."""
        try:
            left = left_behind(self.left, steps, made_by)
        except (TooMany, TooGreat):
            return False
        trails = [self.trail_of(steps[-1], index) for index in range(len(left) - len(self.left) + 1)]
        self.left = left
        self.trails = tuple(trails) + self.trails[1:]
        self.steps = self.steps + steps
        return True

    def trail_of(self, step, index):
        """The trail of a system that a step makes of the first one."""
        if step[0] == "split":
            return self.trails[0]
        return (self.left[0], step[1], index, self.trails[0])

    def look(self):
        """Look at the first system: a point of the one that is examined, or None.

        If there is none yet, a way to go on is taken, if one is within the limits.
        """
        system = self.left[0]
        if system.reduced().is_impossible:
            self.take((("close",),))
            return None
        if system.variables == 0:
            return lifted((), self.trails[0])
        quotients = len([row for row in system.rows if row[0] == "div"])
        if (system.variables + quotients) * len(system.rows) > MOST_NUMBERS:
            self.go_on([])
            return None
        tableau = Tableau(system.variables + quotients, relaxed_rows(system, quotients))
        conflict = tableau.find_conflict()
        if conflict is not None:
            if not self.take(sum_steps(system, tableau.multipliers(conflict))):
                self.go_on([])
            return None
        values = tableau.whole_values()
        if values is not None:
            return lifted(tuple(values[:system.variables]), self.trails[0])
        self.go_on(split_steps(system, tableau))
        return None

    def go_on(self, halves):
        """Take the first way to go on that is within the limits; some halve the system."""
        system = self.left[0]
        costs = sorted([(cost_of(Elimination(system, k)), k) for k in range(system.variables)])
        few = [("cases", k) for cost, k in costs if cost[0] <= FEW_CASES]
        many = [("cases", k) for cost, k in costs if cost[0] > FEW_CASES]
        for step in few + halves + many:
            if self.take((step,)):
                return


def examine(system, *, effort=500):
    """A point of a system, or steps that refute it, or why neither was found."""
    return examined(system, Budget(effort))


def examined(system, budget):
    """What examine returns, with looks from a budget."""
    examination = Examination(system)
    while len(examination.left) > 0:
        if not budget.spend():
            return ("unknown", "effort")
        done = len(examination.steps)
        point = examination.look()
        if point is not None:
            return ("point", point)
        if len(examination.steps) == done:
            return ("unknown", "limit")
    return ("refutation", examination.steps)


def lifted(point, trail):
    """The point of the system at the end of a trail that a point becomes."""
    while trail is not None:
        system, k, index, trail = trail
        point = lift(system, k, index, point)
    return point


def relaxed_rows(system, quotients):
    """The inequalities of the tableau of a system in which so many constraints are "div".

    Each of these has one more variable, its quotient. An equation is two inequalities, and so is
    what says that a quotient is one.
    """
    found = []
    seen = 0
    for row in system.rows:
        more = (0,) * quotients
        if row[0] == "div":
            more = (0,) * seen + (-row[1],) + (0,) * (quotients - seen - 1)
            seen += 1
        expression = row[-1][:-1] + more + row[-1][-1:]
        found.append(expression)
        if row[0] != "ge":
            found.append(multiply(-1, expression))
    return found


def sum_steps(system, multipliers):
    """The steps that refute a system by multiples of the inequalities of its tableau."""
    found = []
    total = 0
    at = 0
    for row in system.rows:
        multiplier = multipliers[at]
        at += 1
        if row[0] != "ge":
            multiplier -= multipliers[at]
            at += 1
        found.append(multiplier)
        total += multiplier * row[-1][-1]
    # The sum is a negative number; divided by itself, it is -1, however great it is.
    return (("add", tuple(found), -total), ("close",))


def split_steps(system, tableau):
    """The steps that split a system where the values of a tableau are no integers."""
    found = []
    for k, number in enumerate(tableau.numerators()[:system.variables]):
        if number % tableau.scale != 0:
            unit = (0,) * k + (1,) + (0,) * (system.variables - k - 1)
            found.append(("split", unit + (-1 - number // tableau.scale,)))
    return found


def cost_of(elimination):
    """The number of cases, and about how much is in them."""
    if elimination.rule == 1:
        # A multiple that is not 1 becomes a divisor, and makes the numbers greater.
        pivot = abs(elimination.pivots[0][0][elimination.k])
        return (1, len(elimination.system.rows) + 8 * (pivot - 1))
    if elimination.rule == 2:
        return (1, elimination.count_joined())
    return (elimination.count_cases(), len(elimination.system.rows))
