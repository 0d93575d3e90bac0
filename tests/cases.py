"""Nests with schedules and foldings, to be gone through by tests."""

import random

from loopworks.errors import Outside, TooMany
from loopworks.nests import Nest
from loopworks.programs import Program
from loopworks.schedules import Schedule
from tests.random_programs import random_program
from tests.test_schedules import random_schedule

SMALL = (
    "params n; temp b[]; array a[]; for i = 0 to 2 { b[i] = f(b[i - 1]); } a[n] = g(b[n]);",
    "params n; temp b[]; array a[]; for i = 0 to 1 { b[i + n] = f(); a[i] = g(b[i], a[i - 1]); }",
    "params n; temp b[,]; array a; for i = 0 to 1 { for j = 0 to 1 { b[i, j] = f(b[i - 1, j + 1]); } }"
    " a = g(b[1, n]);",
    "params n; temp s; array a[]; s = f(); for i = 0 to 2 { a[i] = g(s, a[n]); } s = h();",
    "params n; array a[]; for i = 0 to 2 { a[i] = f(a[2 - i]); a[1] = g(); }",
    "params n; temp b[]; array a; b[n] = f(); b[2] = g(b[0]); a = h(b[2], b[n]);",
)
GROWING = (
    "params n; array s, a[]; for i = 0 to n { s = f(s); a[0] = g(s); }",
    "params n; array s; temp b[]; for i = 0 to n { s = f(s, b[i]); b[i + 1] = g(s); }",
    "params n, m; array a[,]; for i = 0 to n { for j = i to m { a[i, j] = f(a[i - 1, j], a[i, j - 1]); } }",
    "params n; temp b[]; array a[]; for i = 0 to n { b[i] = f(); } for i = 0 to n { a[i] = g(b[n - i]); }",
)


def random_folding(chance, program):
    folding = []
    for _, dimensions, temporary in program.arrays:
        most = 4 if temporary else 1
        folding.append(tuple([chance.randrange(most) for _ in range(dimensions)]))
    return tuple(folding)


def random_case(chance, program):
    """A nest of the program, a schedule and a folding, or None if the sizes are outside."""
    sizes = tuple([chance.randrange(-1, 4) for _ in program.parameters])
    schedule = Schedule.parse(random_schedule(chance, program), program)
    try:
        return Nest(program, sizes), schedule, random_folding(chance, program)
    except (Outside, TooMany):
        return None


def random_cases(seed, count, most):
    """So many cases with 1 to most instances; half of them of random programs."""
    chance = random.Random(seed)
    found = []
    while len(found) < count:
        text = random_program(chance) if chance.random() < 0.5 else chance.choice(SMALL + GROWING)
        case = random_case(chance, Program.parse(text))
        if case is not None and 1 <= len(case[0]) <= most:
            found.append(case)
    return found


def made(program, sizes, schedule):
    """A nest and a schedule, of texts."""
    program = Program.parse(program)
    return Nest(program, sizes), Schedule.parse(schedule, program)
