"""Points 70 to 73: the generated code of a program and a schedule."""

import random
import unittest
from unittest import mock

from loopworks import generating
from loopworks.codes import Code
from loopworks.errors import Outside, TooGreat, TooMany
from loopworks.executing import code_order, executed, is_path_before
from loopworks.generating import generate, numbers_of_body
from loopworks.nests import Nest
from loopworks.programs import Program
from loopworks.schedules import Schedule, is_before, time_of
from tests.cases import GROWING, SMALL
from tests.oracle import instances_of
from tests.random_programs import random_program
from tests.test_schedules import random_schedule

HEAD = "params n; context n >= 1; array a[]; "
ONE = HEAD + "for i = 0 to n { a[i] = f(); }"
TWO = HEAD + "for i = 0 to n { a[i] = f(); } for i = 1 to n { a[i] = g(); }"
THREE = HEAD + "for i = 0 to n { a[i] = f(); a[i] = g(); } a[0] = h();"


def read(text, schedule):
    program = Program.parse(text)
    return program, Schedule.parse(schedule, program)


class TextTest(unittest.TestCase):
    def check(self, text, schedule, *lines):
        """The text of the generated code, with its lines as they stand."""
        program, schedule = read(text, schedule)
        code = generate(program, schedule)
        self.assertEqual(code.text, "".join([line + "\n" for line in lines]))
        self.assertIs(code.program, program)
        self.assertEqual(Code.parse(code.text, program).body, code.body)


class LoopsTest(TextTest):
    def test_the_example(self):
        self.check(
            "params N; context N>=1; temp A[,]; for i=0 to N-1 { for j=0 to N-1 { A[i,j]=S(); } }",
            "rows seq, par; S: i + j, j;",
            "for t1 = 0 to 2 * N - 2 {",
            "  parfor t2 = max(0, t1 + 1 - N) to min(N - 1, t1) {",
            "    S(t1 - t2, t2);",
            "  }",
            "}",
        )

    def test_one_loop(self):
        self.check(ONE, "rows seq; f: i;", "for t1 = 0 to n {", "  f(t1);", "}")
        self.check(ONE, "rows par; f: i;", "parfor t1 = 0 to n {", "  f(t1);", "}")

    def test_shifted_and_reversed(self):
        self.check(ONE, "rows seq; f: i + 3;", "for t1 = 3 to n + 3 {", "  f(t1 - 3);", "}")
        self.check(ONE, "rows seq; f: n - i;", "for t1 = 0 to n {", "  f(n - t1);", "}")
        self.check(ONE, "rows seq; f: -i - n;", "for t1 = 0 - 2 * n to 0 - n {", "  f(0 - n - t1);", "}")

    def test_scaled(self):
        self.check(
            ONE, "rows seq; f: 2 * i;",
            "for t1 = 0 to 2 * n {",
            "  parfor t2 = max(ceil(t1, 2), 0) to min(floor(t1, 2), n) {",
            "    f(t2);",
            "  }",
            "}",
        )

    def test_tiles(self):
        self.check(
            ONE, "rows par, seq; f: floor(i, 4), i;",
            "parfor t1 = 0 to floor(n, 4) {",
            "  for t2 = max(0, 4 * t1) to min(n, 4 * t1 + 3) {",
            "    f(t2);",
            "  }",
            "}",
        )
        self.check(
            ONE, "rows seq; f: floor(n - i, 2);",
            "for t1 = 0 to floor(n, 2) {",
            "  parfor t2 = max(n - 2 * t1 - 1, 0) to min(n - 2 * t1, n) {",
            "    f(t2);",
            "  }",
            "}",
        )

    def test_interchanged(self):
        self.check(
            HEAD + "for i = 0 to n { for j = i to n { a[i] = f(); } }", "rows seq; f: j;",
            "for t1 = 0 to n {", "  parfor t2 = 0 to min(n, t1) {", "    f(t2, t1);", "  }", "}",
        )

    def test_the_loops_of_a_statement(self):
        self.check(
            HEAD + "for i = 0 to n { for j = i to n { a[i] = f(); } }", "rows seq; f: n;",
            "for t1 = n to n {",
            "  parfor t2 = 0 to n {",
            "    parfor t3 = t2 to n {",
            "      f(t2, t3);",
            "    }",
            "  }",
            "}",
        )

    def test_the_first_bound_that_is_equal_to_an_upper_one(self):
        # t1 = 2 i + j, t2 = i: j is 2 i less than t1, and i itself is t2.
        self.check(
            HEAD + "for i = 0 to n { for j = 0 to n { a[i] = f(); } }", "rows seq, seq; f: 2 * i + j, i;",
            "for t1 = 0 to 3 * n {",
            "  for t2 = max(0, ceil(t1 - n, 2)) to min(n, floor(t1, 2)) {",
            "    f(t2, t1 - 2 * t2);",
            "  }",
            "}",
        )


class StatementsTest(TextTest):
    def test_no_rows(self):
        self.check(ONE, "rows; f:;", "parfor t1 = 0 to n {", "  f(t1);", "}")
        self.check(
            THREE, "rows; f:; g:; h:;",
            "parfor t1 = 0 to n {", "  f(t1);", "}", "||", "parfor t1 = 0 to n {", "  g(t1);", "}", "||", "h();",
        )

    def test_no_statements(self):
        for schedule in ("rows;", "rows seq, par;"):
            self.check("params n;", schedule)
            self.assertEqual(generate(*read("params n;", schedule)).body, ())

    def test_in_one_loop(self):
        self.check(
            TWO, "rows seq, seq; f: i, 0; g: i, 1;",
            "for t1 = 0 to n {", "  f(t1);", "  if t1 - 1 >= 0 {", "    g(t1);", "  }", "}",
        )
        self.check(
            TWO, "rows seq, par; f: i, 0; g: i, 1;",
            "for t1 = 0 to n {", "  f(t1);", "  ||", "  if t1 - 1 >= 0 {", "    g(t1);", "  }", "}",
        )

    def test_one_behind_the_other(self):
        self.check(
            TWO, "rows seq, par; f: 3, i; g: -1, i;",
            "parfor t1 = 1 to n {", "  g(t1);", "}", "parfor t1 = 0 to n {", "  f(t1);", "}",
        )
        self.check(
            TWO, "rows par, seq; f: 3, i; g: -1, i;",
            "for t1 = 1 to n {", "  g(t1);", "}", "||", "for t1 = 0 to n {", "  f(t1);", "}",
        )

    def test_a_constant_row(self):
        self.check(ONE, "rows seq; f: 7;", "parfor t1 = 0 to n {", "  f(t1);", "}")
        self.check(
            TWO, "rows seq; f: 5; g: floor(17, 3);",
            "parfor t1 = 0 to n {", "  f(t1);", "}", "||", "parfor t1 = 1 to n {", "  g(t1);", "}",
        )

    def test_several_values(self):
        # f and g have the same value: their body is one loop.
        self.check(
            THREE, "rows seq, par; f: 5, i; g: floor(11, 2), i; h: floor(-1, 2), 0;",
            "h();", "parfor t1 = 0 to n {", "  f(t1);", "  ||", "  g(t1);", "}",
        )
        # Here it has two items.
        self.check(
            THREE, "rows seq; f: 5; g: floor(11, 2); h: 9;",
            "{", "  parfor t1 = 0 to n {", "    f(t1);", "  }", "  ||", "  parfor t1 = 0 to n {", "    g(t1);",
            "  }", "}", "h();",
        )
        self.check(
            THREE, "rows par, seq; f: 5, 1; g: 5, 0; h: 9, 4;",
            "{", "  parfor t1 = 0 to n {", "    g(t1);", "  }", "  parfor t1 = 0 to n {", "    f(t1);", "  }",
            "}", "||", "h();",
        )

    def test_constant_for_some_statements_alone(self):
        self.check(
            THREE, "rows seq; f: i; g: i; h: 2;",
            "for t1 = 0 to max(n, 2) {",
            "  if n - t1 >= 0 {", "    f(t1);", "  }", "  ||", "  if n - t1 >= 0 {", "    g(t1);", "  }", "  ||",
            "  if 2 - t1 >= 0 and t1 - 2 >= 0 {", "    h();", "  }", "}",
        )


class NeedlessListsTest(TextTest):
    def bounds(self, loops, rows=None):
        """The lists of bounds of the loop over the values of the loops of some statements."""
        names = "fgh"[:len(loops)]
        items = [
            f"for i = {low} to {up} {{ a[i] = {name}(); }}" for name, (low, up) in zip(names, loops)
        ]
        rows = rows or ["i"] * len(loops)
        lines = [f"{name}: {row};" for name, row in zip(names, rows)]
        text = f"params n, m; array a[]; {' '.join(items)}"
        code = generate(*read(text, f"rows seq; {' '.join(lines)}"))
        return code.text.split("\n")[0][len("for t1 = "):-len(" {")]

    def test_lower_bounds(self):
        for loops, expected in (
            ((("0", "n"), ("0", "n")), "0 to n"),
            ((("0", "n"), ("1", "n")), "0 to n"),
            ((("1", "n"), ("0", "n")), "0 to n"),
            ((("0", "n"), ("m", "n")), "min(0, m) to n"),
            ((("1", "n"), ("m", "n"), ("0", "n")), "min(m, 0) to n"),
            ((("0", "n"), ("m", "n"), ("1", "n")), "min(0, m) to n"),
            ((("max(0, m)", "n"), ("1", "n")), "min(max(0, m), 1) to n"),
            ((("1", "n"), ("max(2, m)", "n")), "1 to n"),
            ((("max(2, m)", "n"), ("1", "n")), "1 to n"),
            ((("max(0, m)", "n"), ("max(m + 1, 5)", "n")), "max(0, m) to n"),
            ((("max(0, m)", "n"), ("max(m - 1, 5)", "n")), "min(max(0, m), max(m - 1, 5)) to n"),
            ((("max(0, m, 2 * m)", "n"), ("max(m, 0)", "n")), "max(m, 0) to n"),
        ):
            self.assertEqual(self.bounds(loops), expected)

    def test_upper_bounds(self):
        for loops, expected in (
            ((("0", "n"), ("0", "n + 1")), "0 to n + 1"),
            ((("0", "n + 1"), ("0", "n")), "0 to n + 1"),
            ((("0", "n"), ("0", "m")), "0 to max(n, m)"),
            ((("0", "n"), ("0", "m"), ("0", "n + 2")), "0 to max(m, n + 2)"),
            ((("0", "min(n, m)"), ("0", "n")), "0 to n"),
            ((("0", "n"), ("0", "min(n - 1, m)")), "0 to n"),
            ((("0", "min(n, m)"), ("0", "min(m - 1, n + 1)")), "0 to max(min(n, m), min(m - 1, n + 1))"),
        ):
            self.assertEqual(self.bounds(loops), expected)

    def test_divisors(self):
        for rows, expected in (
            (["floor(i, 2)", "floor(i, 2)"], "0 to floor(n, 2)"),
            (["floor(i, 2)", "floor(i, 3)"], "0 to max(floor(n, 2), floor(n, 3))"),
            (["floor(i, 2)", "floor(i - 3, 2)"], "0 - 2 to floor(n, 2)"),
        ):
            self.assertEqual(self.bounds((("0", "n"), ("0", "n")), rows), expected)


class GuardsTest(TextTest):
    def test_conditions_that_are_known(self):
        self.check(
            HEAD + "for i = 0 to n { if i >= 3 and n >= 0 { a[i] = f(); } }", "rows seq; f: i;",
            "for t1 = 3 to n {", "  f(t1);", "}",
        )

    def test_conditions_that_are_not(self):
        self.check(
            HEAD + "for i = 0 to n { if n >= 3 { a[i] = f(); } }", "rows seq; f: i;",
            "for t1 = 0 to n {", "  if n - 3 >= 0 {", "    f(t1);", "  }", "}",
        )
        # What several lists of bounds come from is not known.
        self.check(
            "params n, m; array a[]; for i = 0 to n { a[i] = f(); } for i = 0 to m { a[i] = g(); }",
            "rows seq, seq; f: i, 0; g: i, 1;",
            "for t1 = 0 to max(n, m) {",
            "  if n - t1 >= 0 {", "    f(t1);", "  }", "  if m - t1 >= 0 {", "    g(t1);", "  }", "}",
        )

    def test_the_context(self):
        self.check("params n; context n >= 3; array a; if n >= 2 { a = f(); }", "rows; f:;", "f();")
        self.check("params n; context n >= 3; array a; if 2 * n >= 5 { a = f(); }", "rows; f:;", "f();")
        self.check("params n; context n == 3; array a; if n >= 3 and n <= 4 { a = f(); }", "rows; f:;", "f();")
        self.check(
            "params n; context 2 divides n; array a; if 2 divides n { a = f(); }", "rows; f:;",
            "if 2 divides n {", "  f();", "}",
        )
        self.check(
            "params n; context n >= 3; array a; if n >= 4 { a = f(); }", "rows; f:;",
            "if n - 4 >= 0 {", "  f();", "}",
        )

    def test_divisions_stand_behind(self):
        self.check(
            HEAD + "for i = 0 to n { if 3 divides 2 * i - 1 and n >= 5 and 4 divides i + n { a[i] = f(); } }",
            "rows seq; f: i + 1;",
            "for t1 = 1 to n + 1 {",
            "  if n - 5 >= 0 and 3 divides 2 * t1 - 3 and 4 divides n + t1 - 1 {",
            "    f(t1 - 1);",
            "  }",
            "}",
        )

    def test_equations(self):
        self.check(
            HEAD + "for i = 0 to n { if 2 * i == n { a[i] = f(); } }", "rows seq; f: 0;",
            "parfor t1 = max(0, ceil(n, 2)) to min(n, floor(n, 2)) {", "  f(t1);", "}",
        )
        self.check(
            "params n; array a; if n == 4 { a = f(); }", "rows; f:;",
            "if n - 4 >= 0 and 4 - n >= 0 {", "  f();", "}",
        )

    def test_conditions_that_never_hold(self):
        self.check(
            "array a; if 0 >= 1 { a = f(); }", "rows; f:;", "if 0 - 1 >= 0 {", "  f();", "}",
        )


def greatest_in(value):
    """The greatest number anywhere in a body, without its sign."""
    if isinstance(value, tuple):
        return max([greatest_in(part) for part in value], default=0)
    return abs(value) if isinstance(value, int) else 0


class GreatNumbersTest(unittest.TestCase):
    TEXT = (
        "params n; array a; for i = -99 to 2 * n + 99 { for j = 2 * n - 4 * i - 100 to n - 53 { "
        "for k = 3 * n - 3 * i + 4 * j - 100 to 4 * i - 3 * j + 1 { a = f(); } } }"
    )

    def test_numbers_that_are_too_great(self):
        given = read(
            self.TEXT,
            "rows seq, seq, seq; f: floor(89 - 3 * n + i - 4 * k, 3), floor(-n - k - 100, 7), floor(3 * n - 2 * k - 1, 8);",
        )
        with self.assertRaises(TooGreat):
            generate(*given)

    def test_numbers_that_are_not(self):
        code = generate(*read(self.TEXT, "rows seq, seq; f: floor(89 - 3 * n + i - 4 * k, 3), floor(-n - k - 100, 7);"))
        self.assertLess(greatest_in(code.body), 10 ** 9)

    def test_numbers_everywhere(self):
        program = Program.parse("params n; array s; for i = 0 to n { s = f(); }")
        code = Code.parse(
            "parfor t1 = min(max(ceil(11 * n - 12, 13), 14), 15) to max(16, min(floor(17 * n + 18, 19), 20)) { "
            "{ if 21 divides 22 * n - 23 and 24 * n >= 25 and 26 * n == 27 { f(28 * t1 - 29); } } "
            "for t2 = 30 * t1 to 31 { f(32); } }",
            program,
        )
        found = [abs(number) for number in numbers_of_body(code.body)]
        self.assertEqual([number for number in range(11, 33) if number not in found], [])

    def test_the_greatest_number(self):
        self.assertEqual(generating.GREATEST_NUMBER, 999999999)
        for text, schedule in (
            (ONE, "rows seq; f: i + 77;"), (ONE, "rows seq; f: i - 77;"), (ONE, "rows seq; f: 4 * i - 77;"),
            (HEAD + "if n >= 77 { a[0] = f(); }", "rows; f:;"), (HEAD + "if 8 divides n { a[0] = f(); }", "rows; f:;"),
            ("params n; array a[]; for i = 0 to n { if 2 divides i + n { a[0] = f(); } }", "rows seq; f: n - i - 77;"),
            # In a lower bound, in an upper one, in a statement, in one that has a condition.
            (HEAD + "for i = 77 to n { a[i] = f(); }", "rows seq; f: i;"),
            (HEAD + "for i = n to 77 { a[i] = f(); }", "rows seq; f: i;"),
            (HEAD + "for i = -77 to n - 77 { a[i] = f(); }", "rows seq; f: i + 77;"),
            (HEAD + "for i = -77 to n - 77 { if n >= 3 { a[i] = f(); } }", "rows seq; f: i + 77;"),
        ):
            given = read(text, schedule)
            most = greatest_in(generate(*given).body)
            with mock.patch.object(generating, "GREATEST_NUMBER", most):
                generate(*given)
            with mock.patch.object(generating, "GREATEST_NUMBER", most - 1):
                with self.assertRaises(TooGreat):
                    generate(*given)


def schedule_of_forms(chance, program):
    """A schedule whose rows are numbers for some statements, and loops or sums for others."""
    marks = [chance.choice(["seq", "par"]) for _ in range(chance.randint(1, 4))]
    forms = [chance.choice(["number", "number", "loop", "either", "sum"]) for _ in marks]
    lines = []
    for number, statement in enumerate(program.statements):
        names = program.names_of(number)
        rows = [row_of_form(chance, form, names, names[len(program.parameters):]) for form in forms]
        lines.append(f"{statement.name}: {', '.join(rows)};")
    return Schedule.parse(f"rows {', '.join(marks)}; {' '.join(lines)}", program)


def row_of_form(chance, form, names, loops):
    if form == "either":
        form = chance.choice(["number", "loop"])
    if form == "number" or not names:
        row = str(chance.randint(0, 3))
    elif form == "loop" and loops:
        row = f"{chance.choice(loops)} {chance.choice('+-')} {chance.choice([0, 0, 1, 3])}"
    else:
        row = " + ".join([chance.choice(["", "2 * "]) + name for name in names if chance.random() < 0.6] or ["1"])
    return f"floor({row}, {chance.randint(1, 4)})" if chance.random() < 0.3 else row


class AllInstancesTest(unittest.TestCase):
    """Point 70, on many small programs, schedules and sizes."""

    def check(self, program, schedule, code, sizes):
        """Check an execution at sizes; the number of instances, or 0 if there is none."""
        try:
            nest = Nest(program, sizes)
            found = executed(code, sizes)
        except (Outside, TooMany):
            return 0
        instances = [x for x, _ in found]
        self.assertEqual(sorted(instances), sorted([x for x, _, _ in instances_of(program.text, sizes)]))
        self.assertEqual(len(set(instances)), len(instances))
        self.assertEqual(code_order(code, sizes), instances)
        self.assertEqual(instances, sorted(nest, key=lambda x: (time_of(schedule, sizes, x), x)))
        for one, path in found:
            for other, behind in found:
                self.assertEqual(is_path_before(path, behind), is_before(schedule, sizes, one, other))
        return len(instances)

    def test_small_programs(self):
        chance = random.Random(70)
        many = 0
        for _ in range(250):
            text = chance.choice(SMALL + GROWING) if chance.random() < 0.4 else random_program(chance)
            program = Program.parse(text)
            schedule = Schedule.parse(random_schedule(chance, program), program)
            if chance.random() < 0.6:
                schedule = schedule_of_forms(chance, program)
            code = generate(program, schedule)
            self.assertEqual(Code.parse(code.text, program).body, code.body)
            for _ in range(4):
                sizes = tuple([chance.randrange(-2, 5) for _ in program.parameters])
                many += self.check(program, schedule, code, sizes)
        self.assertGreater(many, 2000)

    def test_programs_with_schedules_that_fit(self):
        for text, rows in (
            (ONE, "rows par, seq; f: floor(i, 4), i;"), (TWO, "rows seq, par; f: i, 0; g: n - i, 0;"),
            (THREE, "rows par, seq, seq; f: floor(i, 3), i, 1; g: floor(i, 2), -i, 0; h: n, 2, 2;"),
            (
                HEAD + "for i = 0 to n { for j = max(i, n - i) to min(n, 2 * i + 1) { for k = j to i + n { a[k] = f(); } } }",
                "rows seq, par, seq; f: floor(i + k, 3), k - j, floor(2 * i - j, 4);",
            ),
            (
                "params n, m; array a[]; for i = 0 to n { for j = 0 to m { a[i] = f(); } a[i] = g(); }",
                "rows seq, seq, par, seq; f: floor(i, 2), floor(i + j, 2), i, j; g: floor(i, 2), m, i, 0;",
            ),
        ):
            program, schedule = read(text, rows)
            code = generate(program, schedule)
            many = 0
            for one in range(1, 6):
                for other in (0, 2, 3):
                    many += self.check(program, schedule, code, (one, other)[:len(program.parameters)])
            self.assertGreater(many, 30)

    def test_the_same_again(self):
        program, schedule = read(TWO, "rows seq, seq; f: i, 0; g: i, 1;")
        again = Program.parse(program.text)
        code = generate(program, schedule)
        generate(program, Schedule.parse("rows par; f: 0; g: 0;", program))
        self.assertEqual(generate(program, schedule).body, code.body)
        self.assertEqual(generate(again, Schedule.parse(schedule.text, again)), code)


if __name__ == "__main__":
    unittest.main()
