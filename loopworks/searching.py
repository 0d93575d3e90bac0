"""Searching for derivations, or for sizes at which something is not kept."""

from loopworks.asks import asks_of, clauses_hold
from loopworks.derivations import eliminated_systems, left_behind_ask_steps, start_of
from loopworks.errors import Outside, TooGreat, TooMany
from loopworks.examining import Budget, examined
from loopworks.expressions import all_hold, value_at
from loopworks.keeping import is_kept
from loopworks.nests import Nest, in_context
from loopworks.systems import System

GREATEST_SIZE = 50
# How many sizes are tried out at first, by the number of the parameters: most faults are there
# at small sizes already.
MOST_TRIED = (1, 10, 25)
# Of two parameters, sizes are tried out together from so many first ones.
TOGETHER = 17


class Question:
    """Clauses over variables, without anything hidden, to be examined as an ask is."""

    def __init__(self, variables, clauses):
        self.variables = variables
        self.clauses = clauses
        self.hidden = ()


class Inquiry:
    """The systems that are left of an ask that is examined, and the steps up to there.

    For each system there are the numbers of the clauses that wait: those of which no alternative
    was chosen for it.
    """

    def __init__(self, ask, start, budget):
        self.ask = ask
        self.budget = budget
        self.left = (start,)
        self.waiting = (tuple(range(len(ask.clauses))),)
        self.steps = ()

    def run(self):
        """Look at one system after the other; what examine_ask returns."""
        outcome = self.choose_without_choice()
        while outcome is None and len(self.left) > 0:
            outcome = self.look()
        return ("derivation", self.steps) if outcome is None else outcome

    def choose_without_choice(self):
        """Choose from the clauses with one alternative, and from one without; None if all is well."""
        sizes = [(len(clause), k) for k, clause in enumerate(self.ask.clauses)]
        for size, k in sorted(sizes):
            if size <= 1 and len(self.left) > 0 and not self.choose(k):
                return ("unknown", "limit")
        return None

    def choose(self, k):
        waiting = tuple([other for other in self.waiting[0] if other != k])
        return self.take(("choose", k), waiting)

    def take(self, step, waiting):
        """Take a step if it is within the limits; True if it is."""
        try:
            left = left_behind_ask_steps(self.ask, self.left, (step,))
        except (TooMany, TooGreat):
            return False
        count = len(left) - len(self.left) + 1
        self.left = left
        self.waiting = (waiting,) * count + self.waiting[1:]
        self.steps = self.steps + (step,)
        return True

    def close(self, steps):
        # The steps were taken within the limits when they were found.
        self.left = self.left[1:]
        self.waiting = self.waiting[1:]
        self.steps = self.steps + (("close", steps),)

    def look(self):
        """Look at the first system: an outcome, or None if a step is taken."""
        kind, found = examined(self.left[0], self.budget)
        if kind == "refutation":
            self.close(found)
            return None
        doubtful = self.waiting[0]
        if kind == "point":
            doubtful = [k for k in doubtful if not clauses_hold((self.ask.clauses[k],), found)]
            if len(doubtful) == 0:
                return self.look_behind(found)
        elif found == "effort":
            return ("unknown", "effort")
        return self.branch(doubtful)

    def branch(self, numbers):
        """Choose from the clause of these with the fewest alternatives."""
        choices = sorted([(len(self.ask.clauses[k]), k) for k in numbers])
        if len(choices) > 0 and self.choose(choices[0][1]):
            return None
        return ("unknown", "limit")

    def look_behind(self, point):
        """Look whether a hidden entry excludes a point at which all clauses hold."""
        for k, entry in enumerate(self.ask.hidden):
            kind, found = values_at(entry, point, self.budget)
            if kind == "unknown":
                return (kind, found)
            if kind == "point":
                return self.exclude(k, point, found)
        return ("point", point)

    def exclude(self, k, point, values):
        """Take the step that leaves what a hidden entry does not exclude as it does a point."""
        clauses = self.ask.hidden[k][1]
        picks = tuple([first_that_holds(clause, point + values) for clause in clauses])
        try:
            systems = eliminated_systems(self.ask, k, picks)
        except (TooMany, TooGreat):
            return ("unknown", "limit")
        having = [j for j, system in enumerate(systems) if point in system]
        if self.take(("eliminate", k, picks, having[0]), self.waiting[0]):
            return None
        return ("unknown", "limit")


def first_that_holds(clause, point):
    """The number of the first alternative of a clause that holds at a point."""
    return [k for k, rows in enumerate(clause) if all_hold(rows, point)][0]


def values_at(entry, point, budget):
    """What examine_ask would return of the further variables of a hidden entry at a point."""
    further, clauses = entry
    question = Question(further, tuple([
        tuple([tuple([at_point(row, point) for row in rows]) for rows in clause])
        for clause in clauses
    ]))
    return Inquiry(question, start_of(question), budget).run()


def at_point(row, point):
    """A constraint over the variables behind those of a point, which have its values."""
    expression = row[-1]
    constant = value_at(expression[:len(point)] + expression[-1:], point)
    return row[:-1] + (expression[len(point):-1] + (constant,),)


def examine_ask(ask, *, effort=500):
    """A point of an ask, or a derivation that settles it, or why neither was found."""
    return Inquiry(ask, start_of(ask), Budget(effort)).run()


def search(program, schedule, *, folding=(), effort=500):
    """Derivations of all asks, or sizes at which something is not kept, or why neither was found."""
    asks = asks_of(program, schedule, folding=folding)
    candidates = small_sizes(program)[:MOST_TRIED[len(program.parameters)]]
    sizes = first_not_kept(program, schedule, folding, candidates)
    if sizes is not None:
        return ("sizes", sizes)
    budget = Budget(effort)
    derivations = []
    for ask in asks:
        kind, found = Inquiry(ask, start_of(ask), budget).run()
        if kind == "point":
            kind, found = sizes_of(program, ask, found, budget)
        if kind == "sizes":
            found = sizes_with_nest(program, schedule, folding, found)
            return ("unknown", "limit") if found is None else ("sizes", found)
        if kind == "derivation":
            derivations.append(found)
        elif found == "effort":
            return ("unknown", "effort")
    # Behind an ask that passed a limit, the others were only looked at for sizes.
    if len(derivations) < len(asks):
        return ("unknown", "limit")
    return ("derivations", tuple(derivations))


def first_not_kept(program, schedule, folding, candidates):
    """The first sizes at which something is not kept, or None; those without a nest are passed by."""
    for sizes in candidates:
        nest = nest_or_none(program, sizes)
        if nest is not None and not is_kept(nest, schedule, folding=folding):
            return sizes
    return None


def nest_or_none(program, sizes):
    try:
        return Nest(program, sizes)
    except (Outside, TooMany):
        return None


def small_sizes(program):
    """The sizes in the context, small ones first; not all of them if there are two parameters."""
    count = len(program.parameters)
    found = [()]
    if count == 1:
        found = [(size,) for size in sizes_alone()]
    if count == 2:
        few = sizes_alone()[:TOGETHER]
        ranked = sorted([
            (max(first, second), first, (one, other))
            for first, one in enumerate(few) for second, other in enumerate(few)
        ])
        found = [sizes for _, _, sizes in ranked]
    return [sizes for sizes in found if in_context(program, sizes)]


def sizes_alone():
    """All sizes of one parameter, small ones first, and positive ones earlier."""
    ranked = [(abs(3 * size - 4), size) for size in range(-GREATEST_SIZE, GREATEST_SIZE + 1)]
    return [size for _, size in sorted(ranked)]


def sizes_with_nest(program, schedule, folding, sizes):
    """Sizes at which there is a nest and something is not kept: given ones, or others, or None.

    Without a nest, nobody could look at the faults there.
    """
    candidates = [sizes] + small_sizes(program)
    if len(sizes) == 2:
        candidates.extend([(size, sizes[1]) for size in sizes_alone()])
        candidates.extend([(sizes[0], size) for size in sizes_alone()])
    return first_not_kept(program, schedule, folding, candidates)


def sizes_of(program, ask, point, budget):
    """The sizes of a point of an ask, or of another one if they are too great."""
    count = len(program.parameters)
    if max([abs(size) for size in point[:count]], default=0) <= GREATEST_SIZE:
        return ("sizes", point[:count])
    kind, found = Inquiry(ask, start_within(count, ask), budget).run()
    if kind == "point":
        return ("sizes", found[:count])
    # An ask that has points, but none at such sizes, has neither derivations nor sizes.
    return ("unknown", found if kind == "unknown" else "limit")


def start_within(count, ask):
    """The system in which so many first variables are sizes that are not too great."""
    rows = []
    for k in range(count):
        for sign in (1, -1):
            unit = (0,) * k + (sign,) + (0,) * (ask.variables - k - 1)
            rows.append(("ge", unit + (GREATEST_SIZE,)))
    return System(ask.variables, rows)
