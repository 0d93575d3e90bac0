"""Asks: what would have to be for something not to be kept, at any sizes."""

from loopworks.expressions import all_hold
from loopworks.foldings import check_folding, numbers_of
from loopworks.people import Person, apart, earlier, moved, not_before, same_index, same_place
from loopworks.programs import widened
from loopworks.schedules import time_of


class Ask:
    """An ask of a program, a schedule and a folding, made by asks_of."""

    def __init__(self, program, schedule, folding, head):
        self.kind, self.statement, self.read, self.others = head
        people = people_of(program, schedule, head, 0)
        x = people[0]
        array = x.access(self.read)[0]
        numbers = numbers_of(program, folding, array)
        self.variables = x.variables
        first = first_clauses(program, schedule, people)
        self.clauses = first + further_clauses(head, people, schedule.marks, numbers)
        self.hidden = tuple([
            hidden_entry(program, schedule, head, number) for number in writers_of(program, array)
        ])


def asks_of(program, schedule, *, folding=()):
    """The asks of a program, a schedule and a folding."""
    check_folding(program, folding)
    return tuple([Ask(program, schedule, folding, head) for head in heads_of(program)])


def heads_of(program):
    """The list of tuples (kind, statement, read, others) of the asks of a program."""
    found = []
    for s, statement in enumerate(program.statements):
        array = statement.write[0]
        if not program.arrays[array][2]:
            found.extend([("end", s, None, (z,)) for z in writers_of(program, array)])
        for read, access in enumerate(statement.reads):
            found.extend(heads_of_read(s, read, writers_of(program, access[0])))
    return found


def heads_of_read(s, read, writers):
    late = [("late", s, read, (w,)) for w in writers]
    lost = [("lost", s, read, (w, z)) for w in writers for z in writers]
    spoilt = [("spoilt", s, read, (z,)) for z in writers]
    return late + lost + [("moved", s, read, ())] + spoilt


def writers_of(program, array):
    """The numbers of the statements that write an array."""
    return [
        number for number, statement in enumerate(program.statements)
        if statement.write[0] == array
    ]


def people_of(program, schedule, head, further):
    """The people of an ask, with so many further variables behind those of the ask."""
    numbers = (head[1],) + head[3]
    rows = len(schedule.marks)
    loops_at = [len(program.parameters)]
    for number in numbers:
        loops_at.append(loops_at[-1] + len(program.statements[number].loops))
    times_at = loops_at[-1]
    variables = times_at + rows * len(numbers) + further
    return [
        Person(program, number, variables, loops_at[at], times_at + rows * at)
        for at, number in enumerate(numbers)
    ]


def first_clauses(program, schedule, people):
    """The clauses of the context, and of the loops, conditions and times of the people."""
    context = widened(program.context, people[0].variables)
    return ((context,),) + tuple([
        (person.constraints() + person.time_constraints(schedule.rows[person.number]),)
        for person in people
    ])


def further_clauses(head, people, marks, numbers):
    """The other clauses; the numbers are those of the folding for the array in question."""
    kind, _, read, _ = head
    x = people[0]
    z = people[-1]
    cell = x.cell(read)
    if kind == "moved":
        return (moved(numbers, cell),)
    place = same_place(numbers, z.cell(None), cell)
    if kind == "end":
        return (place, not_before(marks, z, x)) + apart(z, x)
    if kind == "spoilt":
        return (place, not_before(marks, x, z)) + apart(z, x)
    w = people[1]
    source = (same_index(w.cell(None), cell), earlier(w, x))
    if kind == "late":
        return source + (not_before(marks, w, x),)
    orders = (not_before(marks, z, w), not_before(marks, x, z))
    return source + (place,) + orders + apart(z, w) + apart(z, x)


def hidden_entry(program, schedule, head, number):
    """The hidden entry for the statement with this number."""
    kind, _, read, _ = head
    further = len(program.statements[number].loops)
    people = people_of(program, schedule, head, further)
    variables = people[0].variables
    x = people[0]
    v = Person(program, number, variables, variables - further, variables)
    clauses = ((v.constraints(),), same_index(v.cell(None), x.cell(read)))
    if kind == "end":
        return (further, clauses + (earlier(x, v),))
    if kind in ("late", "lost"):
        return (further, clauses + (earlier(people[1], v), earlier(v, x)))
    return (further, clauses + (earlier(v, x),))


def clauses_hold(clauses, point):
    """True if all clauses hold at a point."""
    return all([any([all_hold(rows, point) for rows in clause]) for clause in clauses])


def point_of_fault(nest, schedule, fault, *, folding=()):
    """The index of the ask that a fault belongs to, and its point."""
    check_folding(nest.program, folding)
    kind, people = people_of_fault(nest, fault)
    head = (kind, fault[1][0], fault[2], tuple([s for s, _ in people[1:]]))
    point = nest.sizes
    for _, values in people:
        point = point + values
    for x in people:
        point = point + time_of(schedule, nest.sizes, x)
    return heads_of(nest.program).index(head), point


def people_of_fault(nest, fault):
    """The kind of the ask that a fault belongs to, and its people."""
    kind, x, read, other = fault
    if kind == "ending":
        return "end", [x, other]
    if kind == "early":
        return "late", [x, other]
    if kind == "elsewhere":
        return "moved", [x]
    w = nest.writer(nest.cells_read(x)[read], x)
    if w is None:
        return "spoilt", [x, other]
    return "lost", [x, w, other]
