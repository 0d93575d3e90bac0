"""Points 63, 64 and 66: examining asks, and searching; whatever is returned is checked."""

import random
import unittest
from types import SimpleNamespace

from loopworks.asks import asks_of, clauses_hold, point_of_fault
from loopworks.derivations import accepts, settles
from loopworks.errors import BadFolding, Outside, TooMany
from loopworks.faults import Faults
from loopworks.nests import Nest, in_context
from loopworks.programs import Program
from loopworks.schedules import Schedule
from loopworks.examining import Budget
from loopworks.searching import examine_ask, search, sizes_of, small_sizes, start_within
from tests.cases import GROWING, SMALL, random_cases, random_folding
from tests.random_programs import random_program
from tests.random_systems import random_system
from tests.test_schedules import random_schedule

EFFORTS = (1, 2, 20, 2000, 2001, 10 ** 9)
CHAIN = "params n; context n >= 1; array a[]; for i = 0 to n - 1 { a[i] = f(a[i - 1]); }"
GRID = (
    "params n; array a[,]; for i = 1 to n { for j = 1 to n { a[i, j] = f(a[i - 1, j], a[i, j - 1]); } }"
)
STAGES = (
    "params n; temp b[]; array a[]; for i = 0 to n { b[i] = f(); } "
    "for i = 1 to n { a[i] = g(b[i], b[i - 1]); }"
)
PRODUCT = (
    "params n; array c[,], a[,]; for i = 0 to n { for j = 0 to n { c[i, j] = z(); "
    "for k = 0 to n { c[i, j] = s(c[i, j], a[i, k]); } } }"
)
# Programs with a schedule and a folding that keep everything.
KEPT = (
    (CHAIN, "rows seq; f: i;", ()),
    (CHAIN, "rows seq, par; f: 3 * i - n, n;", ()),
    (GRID, "rows seq, seq; f: i, j;", ()),
    (GRID, "rows seq, par; f: i + j, i;", ()),
    (GRID, "rows seq, seq, seq, seq; f: floor(i, 4), floor(j, 3), i, j;", ()),
    (STAGES, "rows seq, par; f: 0, i; g: 1, i;", ()),
    (STAGES, "rows seq, seq; f: i, 0; g: i, 1;", ((2,),)),
    (STAGES, "rows seq, seq; f: i, 0; g: i + 2, 1;", ((5,),)),
    (PRODUCT, "rows par, par, seq; z: i, j, -1; s: i, j, k;", ()),
    ("params n; array a[]; for i = 0 to n { if 3 divides i { a[i] = f(); } }", "rows par; f: 0;", ()),
    ("array s; s = f(s); s = g();", "rows seq; f: 1; g: 2;", ()),
    ("temp s; s = f(s); s = g();", "rows seq; f: 1; g: 2;", ((),)),
    ("params n; context n >= 1 and n <= 0; array a[]; a[0] = f(); a[0] = g();", "rows par; f: 0; g: 0;", ()),
)
# Programs with a schedule and a folding that do not.
BROKEN = (
    (CHAIN, "rows par; f: i;", ()),
    (CHAIN, "rows seq; f: n - i;", ()),
    (GRID, "rows seq, par; f: i, j;", ()),
    (STAGES, "rows seq, seq; f: i, 0; g: i, 1;", ((1,),)),
    (STAGES, "rows seq, par; f: 0, i; g: 1, i;", ((4,),)),
    (PRODUCT, "rows seq; z: 0; s: 1;", ()),
    ("params n; array a[]; for i = 0 to n { a[i] = f(a[i - 30]); }", "rows par; f: i;", ()),
    ("params n, m; context n <= m - 20; array s; for i = n to m { s = f(); }", "rows par; f: 0;", ()),
    ("params n; context 2 * n == 90; array s; for i = n to n + 1 { s = f(); }", "rows par; f: 0;", ()),
    ("temp b[]; array a[]; a[0] = f(b[4]);", "rows; f:;", ((4,),)),
    ("params n; context n <= -40; array s; s = f(); s = g();", "rows seq; f: 1; g: 0;", ()),
)


def read(text, schedule):
    program = Program.parse(text)
    return program, Schedule.parse(schedule, program)


def instances_by_statement(nest):
    found = [[] for _ in nest.program.statements]
    for s, point in nest:
        found[s].append(point)
    return found


def is_excluded(ask, point, program, instances):
    """True if a hidden entry of the ask holds with some instance of its statement."""
    statement = program.statements[ask.statement]
    access = statement.write if ask.read is None else statement.reads[ask.read]
    writers = [s for s, other in enumerate(program.statements) if other.write[0] == access[0]]
    for (_, clauses), s in zip(ask.hidden, writers):
        if any(clauses_hold(clauses, point + values) for values in instances[s]):
            return True
    return False


class SearchTest(unittest.TestCase):
    def check_ask(self, program, ask, **more):
        """What examine_ask returns, which is checked; its kind."""
        before = (ask.clauses, ask.hidden, ask.variables)
        kind, value = found = examine_ask(ask, **more)
        self.assertEqual(found, examine_ask(ask, **more))
        self.assertEqual((ask.clauses, ask.hidden, ask.variables), before)
        if kind == "point":
            self.assertEqual((len(value), type(value)), (ask.variables, tuple))
            self.assertTrue(clauses_hold(ask.clauses, value))
            try:
                nest = Nest(program, value[:len(program.parameters)])
            except TooMany:
                return kind
            self.assertFalse(is_excluded(ask, value, program, instances_by_statement(nest)))
        elif kind == "derivation":
            self.assertIsInstance(value, tuple)
            self.assertIs(settles(ask, value), True)
        else:
            self.assertEqual(kind, "unknown")
            self.assertIn(value, ("effort", "limit"))
        return kind

    def check(self, program, schedule, **more):
        """What search returns, which is checked; its kind."""
        kind, value = found = search(program, schedule, **more)
        self.assertEqual(found, search(program, schedule, **more))
        folding = more.get("folding", ())
        if kind == "derivations":
            self.assertIsInstance(value, tuple)
            self.assertIs(accepts(program, schedule, value, folding=folding), True)
        elif kind == "sizes":
            self.assertEqual((len(value), type(value)), (len(program.parameters), tuple))
            self.assertTrue(in_context(program, value))
            self.assertTrue(all(-50 <= size <= 50 for size in value))
            self.assertGreater(len(Faults(Nest(program, value), schedule, folding=folding)), 0)
        else:
            self.assertEqual(kind, "unknown")
            self.assertIn(value, ("effort", "limit"))
        return kind


class AsksTest(SearchTest):
    def test_asks_of_what_is_kept(self):
        for text, rows, folding in KEPT:
            program, schedule = read(text, rows)
            for ask in asks_of(program, schedule, folding=folding):
                self.assertEqual(self.check_ask(program, ask), "derivation")

    def test_asks_of_what_is_not(self):
        for text, rows, folding in BROKEN:
            program, schedule = read(text, rows)
            kinds = [self.check_ask(program, ask) for ask in asks_of(program, schedule, folding=folding)]
            self.assertIn("point", kinds)

    def test_efforts(self):
        kinds = []
        for text, rows, folding in KEPT + BROKEN:
            program, schedule = read(text, rows)
            for ask in asks_of(program, schedule, folding=folding):
                for effort in (1, 2, 20):
                    kinds.append(self.check_ask(program, ask, effort=effort))
        for kind in ("point", "derivation", "unknown"):
            self.assertGreater(kinds.count(kind), 10)

    def test_an_effort_that_is_too_small(self):
        program, schedule = read(STAGES, "rows seq, seq; f: i, 0; g: i, 1;")
        lost = [ask for ask in asks_of(program, schedule, folding=((2,),)) if ask.kind == "lost"][0]
        self.assertEqual(examine_ask(lost, effort=1), ("unknown", "effort"))
        self.assertEqual(examine_ask(lost, effort=2000), examine_ask(lost, effort=10 ** 9))
        self.assertEqual(examine_ask(lost), examine_ask(lost, effort=500))
        self.assertEqual(examine_ask(lost)[0], "derivation")

    def test_faults_are_points_and_so_not_settled(self):
        kinds = []
        for nest, schedule, folding in random_cases(63, 60, 12):
            asks = asks_of(nest.program, schedule, folding=folding)
            faults = Faults(nest, schedule, folding=folding)
            faulty = [point_of_fault(nest, schedule, fault, folding=folding)[0] for fault in faults]
            for number, ask in enumerate(asks):
                kind = self.check_ask(nest.program, ask, effort=100)
                kinds.append(kind)
                if number in faulty:
                    self.assertNotEqual(kind, "derivation")
        self.assertGreater(kinds.count("point"), 100)
        self.assertGreater(kinds.count("derivation"), 100)

    def test_asks_that_are_made_by_hand(self):
        chance = random.Random(64)
        counts = {"point": 0, "derivation": 0, "unknown": 0}
        for _ in range(300):
            clauses = tuple([
                tuple([random_system(chance, 2, 1, 2).rows for _ in range(chance.randint(1, 3))])
                for _ in range(chance.randint(0, 3))
            ])
            bounds = (("ge", (0, 0, 1, 6)), ("ge", (0, 0, -1, 6)))
            hidden = tuple([
                (1, ((bounds,), (random_system(chance, 3, 1, 2).rows, random_system(chance, 3, 2, 2).rows)))
                for _ in range(chance.randint(0, 2))
            ])
            ask = SimpleNamespace(variables=2, clauses=clauses, hidden=hidden)
            kind, value = examine_ask(ask)
            counts[kind] += 1
            points = [(x, y) for x in range(-7, 8) for y in range(-7, 8)]
            points = [point for point in points + [value] * (kind == "point") if self.is_point(ask, point)]
            if kind == "point":
                self.assertIn(value, points)
            elif kind == "derivation":
                self.assertIs(settles(ask, value), True)
                self.assertEqual(points, [])
        self.assertGreater(counts["point"], 80)
        self.assertGreater(counts["derivation"], 80)
        self.assertLess(counts["unknown"], 30)

    def is_point(self, ask, point):
        if not clauses_hold(ask.clauses, point):
            return False
        return not any(clauses_hold(clauses, point + (v,)) for _, clauses in ask.hidden for v in range(-6, 7))

    def test_no_clauses_and_no_alternatives(self):
        self.assertEqual(examine_ask(SimpleNamespace(variables=0, clauses=(), hidden=())), ("point", ()))
        for effort in EFFORTS:
            ask = SimpleNamespace(variables=2, clauses=((), ((),)), hidden=())
            kind, steps = examine_ask(ask, effort=effort)
            self.assertEqual((kind, settles(ask, steps)), ("derivation", True))

    def test_limits_are_not_let_out(self):
        great = 10 ** 18 + 1
        rows = (("ge", (great, 0)), ("ge", (-great, -1)))
        ask = SimpleNamespace(variables=1, clauses=((rows,),), hidden=())
        self.assertEqual(examine_ask(ask), ("unknown", "limit"))
        # An entry with 300 cases, which excludes all points.
        entry = (1, (((("div", 300, (1, 1, 0)),),),))
        ask = SimpleNamespace(variables=1, clauses=(), hidden=(entry,))
        self.assertEqual(examine_ask(ask), ("unknown", "limit"))


class WholeSearchTest(SearchTest):
    def test_what_is_kept(self):
        for text, rows, folding in KEPT:
            program, schedule = read(text, rows)
            self.assertEqual(self.check(program, schedule, folding=folding), "derivations", (text, rows))

    def test_what_is_not(self):
        for text, rows, folding in BROKEN:
            program, schedule = read(text, rows)
            self.assertEqual(self.check(program, schedule, folding=folding), "sizes", (text, rows))

    def test_efforts(self):
        for text, rows, folding in KEPT + BROKEN:
            program, schedule = read(text, rows)
            for effort in (1, 2, 20):
                kind = self.check(program, schedule, folding=folding, effort=effort)
                wrong = "sizes" if (text, rows, folding) in KEPT else "derivations"
                self.assertNotEqual(kind, wrong)
            found = search(program, schedule, folding=folding, effort=2000)
            self.assertEqual(found, search(program, schedule, folding=folding, effort=10 ** 9))
            found = search(program, schedule, folding=folding, effort=500)
            self.assertEqual(found, search(program, schedule, folding=folding))

    def test_efforts_that_are_too_small(self):
        for text, rows, folding in KEPT[:9]:
            program, schedule = read(text, rows)
            for effort in (1, 2):
                found = search(program, schedule, folding=folding, effort=effort)
                self.assertEqual(found, ("unknown", "effort"))

    def test_a_fault_at_greater_sizes_alone(self):
        text = "params n; context n >= 60; array s; for i = n to n + 1 { s = f(); }"
        program, schedule = read(text, "rows par; f: i;")
        self.assertEqual(search(program, schedule), ("unknown", "limit"))
        for context in ("n == 51", "n >= 51", "n + 51 == 0", "n + 51 <= 0"):
            text = f"params n; context {context}; array s; s = f(); s = g();"
            program, schedule = read(text, "rows par; f: 0; g: 0;")
            self.assertEqual(search(program, schedule), ("unknown", "limit"))

    def test_sizes_of_points_with_greater_ones(self):
        program = Program.parse("params n, m;")
        ask = SimpleNamespace(variables=3, clauses=(((("ge", (1, -1, 0, 0)), ("ge", (0, 1, 0, -49)),),),), hidden=())
        for point in ((50, 50, 0), (50, 49, 99)):
            self.assertEqual(sizes_of(program, ask, point, Budget(9)), ("sizes", point[:2]))
        for point in ((51, 50, 0), (60, 60, 1), (60, 49, 0)):
            kind, sizes = sizes_of(program, ask, point, Budget(9))
            self.assertEqual((kind, sizes in ((49, 49), (50, 49), (50, 50))), ("sizes", True))
        self.assertEqual(sizes_of(program, ask, (51, 51, 0), Budget(0)), ("unknown", "effort"))
        ask = SimpleNamespace(variables=3, clauses=(((("ge", (-1, 0, 0, -51)),),),), hidden=())
        self.assertEqual(sizes_of(program, ask, (-51, 0, 0), Budget(9)), ("unknown", "limit"))
        self.assertEqual(
            start_within(2, ask).rows,
            (
                ("ge", (1, 0, 0, 50)), ("ge", (-1, 0, 0, 50)), ("ge", (0, 1, 0, 50)), ("ge", (0, -1, 0, 50)),
            ),
        )

    def test_sizes_that_are_tried(self):
        found = small_sizes(Program.parse("params n;"))
        self.assertEqual(sorted(found), [(size,) for size in range(-50, 51)])
        found = small_sizes(Program.parse("params n; context n >= 7 and 2 divides n;"))
        self.assertEqual(found, [(size,) for size in range(8, 51, 2)])
        found = small_sizes(Program.parse("params n, m; context n <= m;"))
        self.assertEqual(len(set(found)), len(found))
        self.assertTrue(all(-50 <= n <= m <= 50 for n, m in found))
        self.assertIn((1, 2), found[:10])
        self.assertEqual(small_sizes(Program.parse("array s;")), [()])

    def test_faults_where_there_is_no_nest(self):
        loops = "for i = 1 to n { for j = 1 to n { s = f(s); } }"
        program, schedule = read(f"params n; context n >= 11; array s; {loops}", "rows par; f: 0;")
        self.assertEqual(search(program, schedule), ("unknown", "limit"))
        program, schedule = read(f"params n; context n >= 10; array s; {loops}", "rows par; f: 0;")
        self.assertEqual(search(program, schedule), ("sizes", (10,)))
        # The sizes of a point may have no nest where others have one.
        for context, first in (("n >= 30 and m >= 30", "n"), ("n >= 30 and m >= 30", "m"), ("n + m >= 45", "m")):
            text = f"params n, m; context {context}; array s; for i = {first} to 45 {{ for j = 1 to 11 {{ s = f(s); }} }}"
            program, schedule = read(text, "rows par; f: 0;")
            self.assertEqual(self.check(program, schedule), "sizes")

    def test_sizes_at_the_limits(self):
        for size in (50, -50):
            text = f"params n; context n == {size}; array s; for i = n to n + 1 {{ s = f(); }}"
            program, schedule = read(text.replace("== -50", "+ 50 == 0"), "rows par; f: i;")
            self.assertEqual(search(program, schedule), ("sizes", (size,)))

    def test_no_parameters_and_no_asks(self):
        program, schedule = read("array s; s = f(); s = g();", "rows par; f: 0; g: 0;")
        self.assertEqual(search(program, schedule), ("sizes", ()))
        program, schedule = read("params n; array a[];", "rows seq;")
        self.assertEqual(search(program, schedule, effort=1), ("derivations", ()))

    def test_foldings_that_do_not_fit(self):
        program, schedule = read(STAGES, "rows seq, seq; f: i, 0; g: i, 1;")
        for folding in (((17,),), ((-1,),), ((2, 2),), ((2,), (2,)), ((2,), (), ())):
            for effort in (1, 500):
                with self.assertRaises(BadFolding):
                    search(program, schedule, folding=folding, effort=effort)

    def test_the_order_of_the_program_itself(self):
        """A program under a schedule that executes it as it stands is never broken."""
        kinds = []
        for text in SMALL + GROWING + ("array a; a = f(a);", "params n; temp b[,]; b[n, 0] = f();"):
            program = Program.parse(text)
            schedule = program_order(program)
            if schedule is not None:
                kinds.append(self.check(program, schedule))
        chance = random.Random(66)
        while len(kinds) < 60:
            program = Program.parse(random_program(chance))
            schedule = program_order(program)
            if schedule is not None:
                kinds.append(self.check(program, schedule, effort=chance.choice((1, 20, 300))))
        self.assertNotIn("sizes", kinds)
        self.assertGreater(kinds.count("derivations"), 20)

    def test_random_schedules(self):
        chance = random.Random(67)
        kinds = []
        for _ in range(80):
            text = chance.choice(SMALL + GROWING) if chance.random() < 0.5 else random_program(chance)
            program = Program.parse(text)
            schedule = Schedule.parse(random_schedule(chance, program), program)
            folding = random_folding(chance, program)
            kind = self.check(program, schedule, folding=folding, effort=chance.choice((1, 20, 300)))
            kinds.append(kind)
            if kind == "derivations":
                self.check_small_sizes(program, schedule, folding)
        for kind in ("sizes", "derivations"):
            self.assertGreater(kinds.count(kind), 15)

    def check_small_sizes(self, program, schedule, folding):
        """Point 62: where there are derivations, there are no faults."""
        count = len(program.parameters)
        for at in range(-2, 6):
            for sizes in {(at,) * count, (3, at)[:count], (at, 2)[:count]}:
                try:
                    nest = Nest(program, sizes)
                except (Outside, TooMany):
                    continue
                self.assertEqual(list(Faults(nest, schedule, folding=folding)), [])


def program_order(program):
    """A schedule that executes a program in its own order, or None if it needs too many rows.

    The loops of each statement, with the number of the statement behind those that it shares
    with the next one: this is the order if each loop but the innermost contains one item.
    """
    statements = program.statements
    shared = []
    for one, other in zip(statements, statements[1:]):
        count = 0
        while one.loops[count:count + 1] == other.loops[count:count + 1] != ():
            count += 1
        shared.append(count)
    if len(set(shared)) > 1:
        return None
    at = shared[0] if shared else 0
    depth = max([len(statement.loops) for statement in statements], default=0)
    if depth + 1 > 4:
        return None
    lines = []
    for number, statement in enumerate(statements):
        names = [program.loops[loop][0] for loop in statement.loops]
        rows = names[:at] + [str(number)] + names[at:] + ["0"] * (depth - len(names))
        lines.append(f"{statement.name}: {', '.join(rows)};")
    marks = ", ".join(["seq"] * (depth + 1))
    return Schedule.parse(f"rows {marks}; {' '.join(lines)}", program)


if __name__ == "__main__":
    unittest.main()
