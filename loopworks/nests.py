"""Programs at sizes: their instances, and the cells that these read and write."""

from loopworks.errors import Outside, TooMany
from loopworks.expressions import all_hold, value_at

MOST_POINTS = 1000
MOST_INSTANCES = 100


class Nest:
    """A program at sizes; iterating gives its instances in the order of the program."""

    def __init__(self, program, sizes):
        if not in_context(program, sizes):
            raise Outside("the sizes are not in the context")
        self.program = program
        self.sizes = sizes
        self.instances = instances_at(program, sizes)
        self.numbers = {x: number for number, x in enumerate(self.instances)}
        self.targets = tuple([self.cell_at(self.write_of(x), x) for x in self.instances])

    def __iter__(self):
        return iter(self.instances)

    def __len__(self):
        return len(self.instances)

    def __contains__(self, x):
        return x in self.instances

    def is_earlier(self, one, other):
        """True if the program executes one ahead of other."""
        return self.numbers[one] < self.numbers[other]

    def written(self, x):
        """The cell that an instance writes."""
        return self.targets[self.numbers[x]]

    def cells_read(self, x):
        """The cells that an instance reads, in the order of the text."""
        reads = self.program.statements[x[0]].reads
        return tuple([self.cell_at(access, x) for access in reads])

    def writer(self, cell, x):
        """The last instance ahead of x that writes the cell, or None."""
        return self.last_of(cell, self.numbers[x])

    def last_writer(self, cell):
        """The last instance that writes the cell, or None."""
        return self.last_of(cell, len(self.instances))

    def last_of(self, cell, count):
        """The last of so many first instances that writes the cell, or None."""
        found = None
        for number in range(count):
            if self.targets[number] == cell:
                found = self.instances[number]
        return found

    def write_of(self, x):
        return self.program.statements[x[0]].write

    def cell_at(self, access, x):
        """The cell of an access of an instance."""
        array, index = access
        point = self.sizes + x[1]
        return (array, tuple([value_at(expression, point) for expression in index]))


def in_context(program, sizes):
    """True if the sizes are in the context of the program."""
    return all_hold(program.context, sizes)


def instances_at(program, sizes):
    """The instances of a program at sizes, in the order of the program."""
    found = []
    for number, statement in enumerate(program.statements):
        for point in points_of(program, sizes, statement.loops):
            if all_hold(statement.conditions, sizes + point):
                found.append((number, point))
    if len(found) > MOST_INSTANCES:
        raise TooMany("there are too many instances")
    firsts = first_statements(program)
    ordered = sorted([(place_in_order(program, firsts, x), x) for x in found])
    return tuple([x for _, x in ordered])


def points_of(program, sizes, loops):
    """The points that loops, each within the one ahead of it, take at sizes."""
    points = [()]
    for number in loops:
        _, lowers, uppers, _ = program.loops[number]
        taken = [(point, values_taken(lowers, uppers, sizes + point)) for point in points]
        # They are counted before they are made, as they may be far too many.
        if sum([max(0, behind - first) for _, (first, behind) in taken]) > MOST_POINTS:
            raise TooMany("loops take too many points")
        points = [
            point + (value,) for point, (first, behind) in taken for value in range(first, behind)
        ]
    return points


def values_taken(lowers, uppers, point):
    """The first value that a loop takes, and the one behind the last."""
    first = max([value_at(bound, point) for bound in lowers])
    last = min([value_at(bound, point) for bound in uppers])
    return first, last + 1


def first_statements(program):
    """A dict from the number of each loop to the number of the first statement in it."""
    found = {}
    for number, statement in enumerate(program.statements):
        for loop in statement.loops:
            found.setdefault(loop, number)
    return found


def place_in_order(program, firsts, x):
    """A tuple by which instances are in the order of the program.

    Items that stand one behind the other contain different statements, so the first statement
    in each of them tells which one comes first.
    """
    statement, point = x
    place = []
    for loop, value in zip(program.statements[statement].loops, point):
        place.append(firsts[loop])
        place.append(value)
    return tuple(place + [statement])
