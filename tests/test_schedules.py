"""Points 25 to 29: schedules. The mark @ stands at the fault of a text."""

import random
import unittest
from itertools import permutations

from loopworks.errors import TextFault, TooLarge
from loopworks.nests import Nest
from loopworks.programs import Program
from loopworks.schedules import Schedule, is_before, is_execution, time_of
from tests.helpers import RESERVED, fault_of, marked

TWO = Program.parse(
    "params n; array a, b[,]; for i = 0 to n { a = f(); for j = i to n { b[i, j] = g(); } }"
)
ONE = Program.parse("params n; array a[]; for i = 0 to n { a[i] = f(); }")
BARE = Program.parse("array a; a = f();")
NONE = Program.parse("params n;")


class ReadingTest(unittest.TestCase):
    def test_attributes(self):
        schedule = Schedule.parse(
            "rows seq, par, seq; f: i, 0, floor(n - i, 3); g: n - i - 7, floor(2 * j + 1, 2), -j;", TWO
        )
        self.assertEqual(schedule.marks, (True, False, True))
        self.assertEqual(
            schedule.rows,
            (
                (((0, 1, 0), 1), ((0, 0, 0), 1), ((1, -1, 0), 3)),
                (((1, -1, 0, -7), 1), ((0, 0, 2, 1), 2), ((0, 0, -1, 0), 1)),
            ),
        )
        self.assertEqual(
            schedule.text,
            "rows seq, par, seq;\nf: i, 0, floor(n - i, 3);\n"
            "g: n - i - 7, floor(2 * j + 1, 2), 0 - j;\n",
        )

    def test_kinds(self):
        schedule = Schedule.parse("rows seq, par; f: i, 0;", ONE)
        self.assertEqual([mark is True for mark in schedule.marks], [True, False])
        self.assertEqual([mark is False for mark in schedule.marks], [False, True])
        self.assertIs(type(schedule.marks), tuple)
        self.assertIs(type(schedule.rows), tuple)
        self.assertIs(type(schedule.rows[0]), tuple)

    def test_no_rows(self):
        schedule = Schedule.parse("rows ; f : ; g : ;", TWO)
        self.assertEqual((schedule.marks, schedule.rows), ((), ((), ())))
        self.assertEqual(schedule.text, "rows;\nf:;\ng:;\n")

    def test_no_statements(self):
        schedule = Schedule.parse("rows par,seq;", NONE)
        self.assertEqual((schedule.marks, schedule.rows), ((False, True), ()))
        self.assertEqual(schedule.text, "rows par, seq;\n")

    def test_up_to_four_rows(self):
        for count in range(5):
            marks = ", ".join(["seq", "par", "par", "seq"][:count])
            rows = ", ".join(["i", "n", "floor(i, 2)", "1"][:count])
            schedule = Schedule.parse(f"rows {marks}; f: {rows};", ONE)
            self.assertEqual(schedule.marks, (True, False, False, True)[:count])
            self.assertEqual(
                schedule.rows[0],
                (((0, 1, 0), 1), ((1, 0, 0), 1), ((0, 1, 0), 2), ((0, 0, 1), 1))[:count],
            )

    def test_divisors(self):
        for divisor in range(1, 9):
            schedule = Schedule.parse(f"rows seq; f: floor(i + 1, {divisor});", ONE)
            self.assertEqual(schedule.rows, ((((0, 1, 1), divisor),),))
        self.assertEqual(
            Schedule.parse("rows seq; f: floor(i + 1, 1);", ONE).text, "rows seq;\nf: i + 1;\n"
        )
        self.assertEqual(
            Schedule.parse("rows seq; f: floor(i + 1, 02);", ONE).text,
            "rows seq;\nf: floor(i + 1, 2);\n",
        )

    def test_without_variables(self):
        schedule = Schedule.parse("rows seq; f: 3 - 5;", BARE)
        self.assertEqual(schedule.rows, ((((-2,), 1),),))
        self.assertEqual(schedule.text, "rows seq;\nf: 0 - 2;\n")

    def test_layout(self):
        tight = Schedule.parse("rows seq,par;f:i,floor(n-i,2);", ONE)
        loose = Schedule.parse("\n rows\tseq , par ;\n\nf : i , floor ( n - i , 2 ) ;\n", ONE)
        self.assertTrue(tight == loose)

    def test_reading_it_back(self):
        chance = random.Random(26)
        for _ in range(200):
            text = random_schedule(chance, TWO)
            schedule = Schedule.parse(text, TWO)
            again = Schedule.parse(schedule.text, TWO)
            self.assertTrue(again == schedule)
            self.assertEqual(again.text, schedule.text)
            self.assertEqual((again.marks, again.rows), (schedule.marks, schedule.rows))

    def test_equality(self):
        base = Schedule.parse("rows seq, par; f: i, i - n;", ONE)
        self.assertTrue(base == Schedule.parse("rows seq,par; f: floor(i,1), -n + i + 0;", ONE))
        self.assertFalse(base != Schedule.parse("rows seq,par; f: i + n - n, i - n;", ONE))
        for text in (
            "rows seq, seq; f: i, i - n;", "rows seq, par; f: i, n - i;", "rows seq; f: i;",
            "rows seq, par; f: floor(i, 2), i - n;",
        ):
            self.assertFalse(base == Schedule.parse(text, ONE))
            self.assertTrue(base != Schedule.parse(text, ONE))
        self.assertFalse(base == base.text)

    def test_class_values(self):
        self.assertEqual((Schedule.MOST_ROWS, Schedule.MOST_DIVISOR), (4, 8))


def random_schedule(chance, program):
    """The text of a schedule of up to three rows."""
    count = chance.randrange(4)
    marks = [chance.choice(["seq", "seq", "par"]) for _ in range(count)]
    text = f"rows {', '.join(marks)};"
    for number, statement in enumerate(program.statements):
        rows = []
        for _ in range(count):
            row = str(chance.randrange(-2, 3)).replace("-", "- ")
            for name in program.names_of(number):
                row += chance.choice(["", f" + {name}", f" - {name}", f" + 2 * {name}", f" + {name}"])
            rows.append(chance.choice([row, row, f"floor({row}, {chance.randrange(1, 4)})"]))
        text += f" {statement.name}: {', '.join(rows)};"
    return text


class FaultsTest(unittest.TestCase):
    def check(self, program, reason, *texts):
        for text in texts:
            with self.subTest(text):
                plain, line, column = marked(text)
                self.assertEqual(fault_of(Schedule.parse, plain, program), (line, column, reason))

    def test_marks(self):
        self.check(
            ONE, "unexpected sign", "@", "@seq; f: i;", "rows @i; f: i;", "rows seq @par; f: i, i;",
            "rows @, seq; f: i;", "rows seq, @; f: i;", "rows seq@", "rows@", "rows@: seq;",
            "rows seq,@", "rows @rows; f: i;", "@Rows seq; f: i;", "rows @(seq); f: i;",
            "rows seq@: f: i;", "rows @1; f: i;", "rows seq, @parfor; f: i, i;",
        )

    def test_lines_of_statements(self):
        self.check(
            ONE, "unexpected sign", "rows seq;@", "rows seq; @g: i;", "rows seq; f @i;",
            "rows seq; f@", "rows seq; f:@", "rows seq; f: i@", "rows seq; f: i; @f: i;",
            "rows seq; f: i; @g: i;", "rows seq; f: i;\n@;", "rows seq; @: i;", "rows seq; f@; i;",
            "rows seq; @i: i;", "rows seq; @a: i;", "rows seq; f: i; @rows seq; f: i;",
            "rows; @1: ;", "rows seq; @seq: i;",
        )

    def test_the_statement_whose_turn_it_is(self):
        self.check(
            TWO, "unexpected sign", "rows seq; @g: i; f: i;", "rows seq; f: i; @f: i;",
            "rows seq; f: i;@", "rows seq; f: i; @h: i;", "rows seq; f: i; g: i; @g: i;",
            "rows; f:; @f:;", "rows; @g:; f:;",
        )

    def test_the_number_of_rows(self):
        self.check(
            ONE, "unexpected sign", "rows seq, par; f: i@;", "rows seq; f: i@, i;", "rows; f: @i;",
            "rows seq; f: @;", "rows seq, par; f: i, @;", "rows seq, par; f: i, i@, i;",
            "rows seq; f: i @i;", "rows seq, par; f: i @i;", "rows seq; f: @, i;",
            "rows; f: @floor(i, 2);",
        )

    def test_sums(self):
        self.check(
            ONE, "unexpected sign", "rows seq; f: @* i;", "rows seq; f: i + @;",
            "rows seq; f: 2 * @2;", "rows seq; f: i @* 2;", "rows seq; f: @max(i, 2);",
            "rows seq; f: @(i);", "rows seq; f: i @>= 0;", "rows seq; f: 2 * @par;",
            "rows seq; f: @ceil(i, 2);",
        )
        self.check(BARE, "unexpected sign", "rows seq; f: 2 @* i;", "rows par; f: floor(2 @* 3, 1);")

    def test_floors(self):
        self.check(
            ONE, "unexpected sign", "rows seq; f: floor @i, 2);", "rows seq; f: floor(i@);",
            "rows seq; f: floor(i, @i);", "rows seq; f: floor(i, @-2);", "rows seq; f: floor(i, 2@;",
            "rows seq; f: floor(i, 2) @+ 1;", "rows seq; f: 1 + @floor(i, 2);",
            "rows seq; f: floor(@floor(i, 2), 2);", "rows seq; f: floor(i, 2 @+ 1);",
            "rows seq; f: floor(i, 2@, 3);", "rows seq; f: floor(i,@", "rows seq; f: floor(@, 2);",
            "rows seq; f: floor@[i, 2);", "rows seq; f: floor(i, @);",
        )

    def test_divisors_of_0(self):
        self.check(
            ONE, "number must be at least 1", "rows seq; f: floor(i, @0);",
            "rows seq; f: floor(i,\n @000);", "rows seq, par; f: floor(i, 2), floor(i, @0;",
        )

    def test_divides_behind_0(self):
        self.check(
            ONE, "number must be at least 1", "rows seq; f: 0 @divides i;", "rows seq; f: i + 0\n@divides",
            "rows seq; f: floor(0 @divides i, 2);", "rows seq, par; f: 1, 00 @divides 2;",
        )
        self.check(
            ONE, "unexpected sign", "rows seq; f: 1 @divides i;", "rows seq; f: i @divides 0;",
            "rows seq; f: @divides;", "rows seq; f: 10 @divides i;", "rows @0 divides;",
        )

    def test_brackets_are_never_nested_too_deeply(self):
        self.check(ONE, "unexpected sign", "@{", "rows @{{{{{{{", "rows seq; f: i; @{{{{{{{")

    def test_unknown_names(self):
        self.check(
            ONE, "unknown name", "rows seq; f: @j;", "rows seq; f: i + @m;", "rows seq; f: @a;",
            "rows seq; f: floor(2 * @f, 2);", "rows seq, par; f: i, @j;",
        )
        self.check(
            TWO, "unknown name", "rows seq; f: @j; g: i;", "rows seq; f: i; g: j + @k;",
            "rows seq; f: i;\ng: @g;",
        )
        self.check(BARE, "unknown name", "rows seq; f: @n;")

    def test_reserved_words(self):
        for word in RESERVED:
            self.check(
                ONE, "unexpected sign", f"rows seq; @{word}: i;", f"rows seq; f: 2 * @{word};",
                f"rows seq; f: i - @{word};",
            )
            if word not in ("seq", "par"):
                self.check(ONE, "unexpected sign", f"rows @{word}; f: i;")
            if word != "floor":
                self.check(ONE, "unexpected sign", f"rows seq; f: @{word};")

    def test_without_statements(self):
        self.check(NONE, "unexpected sign", "rows; @f: ;", "@f;", "rows seq@")

    def test_faults_of_characters_come_first(self):
        self.check(ONE, "unexpected character", "seq; f: 2 * 2; @!")
        self.check(ONE, "name too long", "rows; " + "f" * 20 + "@f: ;")
        self.check(ONE, "number too long", "rows f: 123456789@0")

    def test_the_first_sign_is_reported(self):
        self.check(ONE, "unknown name", "rows seq, par; f: @j, floor(i, 0);")
        self.check(ONE, "number must be at least 1", "rows seq; f: floor(i, @0), j;")

    def test_places_behind_the_last_character(self):
        self.check(ONE, "unexpected sign", "rows seq;\nf: i\n\t @", "rows seq;\n\n@")


class LimitsTest(unittest.TestCase):
    def check(self, at_the_limit, beyond):
        Schedule.parse(at_the_limit, ONE)
        with self.assertRaises(TooLarge):
            Schedule.parse(beyond, ONE)

    def test_rows(self):
        self.check("rows seq, par, seq, par; f: i, 1, n, 2;",
                   "rows seq, par, seq, par, seq; f: i, 1, n, 2, 3;")

    def test_rows_without_statements(self):
        with self.assertRaises(TooLarge):
            Schedule.parse("rows seq, seq, seq, seq, seq;", NONE)

    def test_divisors(self):
        self.check("rows seq; f: floor(i, 8);", "rows seq; f: floor(i, 9);")
        self.check("rows seq, par; f: i, floor(i, 8);", "rows seq, par; f: i, floor(i, 999999999);")

    def test_numbers(self):
        for template in (
            "rows seq; f: {};", "rows seq, par; f: i, {};", "rows par; f: floor({}, 3);"
        ):
            self.check(template.format("4 * i + n"), template.format("5 * i + n"))
            self.check(template.format("i - 4 * n"), template.format("i - 5 * n"))
            self.check(template.format("i + 100"), template.format("i + 101"))
            self.check(template.format("i - 100"), template.format("i - 101"))

    def test_like_terms_count_together(self):
        Schedule.parse("rows seq; f: 9 * i + 900 - 6 * i - 800;", ONE)

    def test_the_second_statement(self):
        with self.assertRaises(TooLarge):
            Schedule.parse("rows seq; f: i; g: 5 * j;", TWO)

    def test_faults_come_first(self):
        for text in (
            "rows seq, seq, seq, seq, seq; f: 1, 2, 3, 4;", "rows seq; f: floor(i, 9)",
            "rows seq; f: 101; g: 1;", "rows par, par; f: 5 * i, m;",
        ):
            with self.assertRaises(TextFault):
                Schedule.parse(text, ONE)


class TimesTest(unittest.TestCase):
    def test_times(self):
        schedule = Schedule.parse("rows seq, par, seq; f: n - i, floor(i, 2), 7;", ONE)
        self.assertEqual(time_of(schedule, (5,), (0, (0,))), (5, 0, 7))
        self.assertEqual(time_of(schedule, (5,), (0, (3,))), (2, 1, 7))
        self.assertEqual(time_of(schedule, (-2,), (0, (5,))), (-7, 2, 7))

    def test_division_is_rounded_down(self):
        schedule = Schedule.parse("rows seq; f: floor(i, 3);", ONE)
        self.assertEqual(
            [time_of(schedule, (9,), (0, (i,)))[0] for i in range(-7, 8)],
            [-3, -2, -2, -2, -1, -1, -1, 0, 0, 0, 1, 1, 1, 2, 2],
        )
        schedule = Schedule.parse("rows seq; f: floor(-2 * i + 1, 4);", ONE)
        self.assertEqual(
            [time_of(schedule, (9,), (0, (i,)))[0] for i in range(0, 5)], [0, -1, -1, -2, -2]
        )

    def test_times_of_each_statement(self):
        schedule = Schedule.parse("rows seq, seq; f: i, 0; g: j, i + 1;", TWO)
        self.assertEqual(time_of(schedule, (5,), (0, (3,))), (3, 0))
        self.assertEqual(time_of(schedule, (5,), (1, (3, 4))), (4, 4))

    def test_no_rows(self):
        schedule = Schedule.parse("rows; f:;", ONE)
        self.assertEqual(time_of(schedule, (5,), (0, (3,))), ())
        self.assertIs(is_before(schedule, (5,), (0, (0,)), (0, (1,))), False)


class BeforeTest(unittest.TestCase):
    def check(self, text, before):
        """The pairs of values of i, from 0 to 3, of which the first is before the second."""
        schedule = Schedule.parse(text, ONE)
        for one in range(4):
            for other in range(4):
                found = is_before(schedule, (3,), (0, (one,)), (0, (other,)))
                self.assertIs(found, (one, other) in before, (text, one, other))

    def test_sequential_rows(self):
        ascending = [(a, b) for a in range(4) for b in range(4) if a < b]
        self.check("rows seq; f: i;", ascending)
        self.check("rows seq; f: -i;", [(b, a) for a, b in ascending])
        self.check("rows seq; f: 0;", [])
        self.check("rows seq, seq; f: 5, i;", ascending)
        self.check("rows seq, seq; f: i, -i;", ascending)

    def test_parallel_rows(self):
        self.check("rows par; f: i;", [])
        self.check("rows par, seq; f: i, i;", [])
        self.check("rows par, seq; f: 1, i;", [(a, b) for a in range(4) for b in range(4) if a < b])

    def test_rows_of_both_kinds(self):
        halves = [(0, 2), (0, 3), (1, 2), (1, 3)]
        self.check("rows seq, par; f: floor(i, 2), i;", halves)
        self.check("rows seq; f: floor(i, 2);", halves)
        self.check("rows par, seq; f: floor(i, 2), i;", [(0, 1), (2, 3)])
        self.check("rows par, seq; f: floor(i, 2), -i;", [(1, 0), (3, 2)])
        self.check("rows seq, par, seq; f: floor(i, 2), i, i;", halves)

    def test_no_rows(self):
        self.check("rows; f:;", [])

    def test_instances_of_two_statements(self):
        schedule = Schedule.parse("rows seq, seq; f: i, 0; g: i, 1;", TWO)
        self.assertIs(is_before(schedule, (3,), (0, (1,)), (1, (1, 2))), True)
        self.assertIs(is_before(schedule, (3,), (1, (1, 2)), (0, (1,))), False)
        self.assertIs(is_before(schedule, (3,), (1, (1, 2)), (0, (2,))), True)
        self.assertIs(is_before(schedule, (3,), (1, (1, 1)), (1, (1, 2))), False)

    def test_sizes_count(self):
        schedule = Schedule.parse("rows seq; f: n; g: i + 2;", TWO)
        self.assertIs(is_before(schedule, (3,), (0, (0,)), (1, (2, 2))), True)
        self.assertIs(is_before(schedule, (4,), (0, (0,)), (1, (2, 2))), False)


class ExecutionTest(unittest.TestCase):
    def setUp(self):
        self.nest = Nest(ONE, (3,))
        self.order = list(self.nest)

    def schedule(self, text):
        return Schedule.parse(text, ONE)

    def test_the_order_of_the_program(self):
        self.assertIs(is_execution(self.nest, self.schedule("rows seq; f: i;"), self.order), True)
        self.assertIs(is_execution(self.nest, self.schedule("rows; f:;"), self.order), True)
        self.assertIs(is_execution(self.nest, self.schedule("rows seq; f: -i;"), self.order), False)

    def test_two_exchanged(self):
        schedule = self.schedule("rows seq; f: floor(i, 2);")
        a, b, c, d = self.order
        self.assertIs(is_execution(self.nest, schedule, [b, a, c, d]), True)
        self.assertIs(is_execution(self.nest, schedule, [b, a, d, c]), True)
        self.assertIs(is_execution(self.nest, schedule, [a, c, b, d]), False)
        self.assertIs(is_execution(self.nest, schedule, [d, b, c, a]), False)
        self.assertIs(is_execution(self.nest, schedule, [c, d, a, b]), False)

    def test_instances_far_apart(self):
        a, b, c, d = self.order
        schedule = self.schedule("rows par, seq; f: floor(i, 3), i;")
        self.assertIs(is_execution(self.nest, schedule, [d, a, b, c]), True)
        self.assertIs(is_execution(self.nest, schedule, [c, d, b, a]), False)
        schedule = self.schedule("rows par, seq; f: floor(n - i, 3), n - i;")
        self.assertIs(is_execution(self.nest, schedule, [d, a, c, b]), True)
        self.assertIs(is_execution(self.nest, schedule, [b, a, c, d]), False)

    def test_one_left_out(self):
        schedule = self.schedule("rows; f:;")
        self.assertIs(is_execution(self.nest, schedule, self.order[1:]), False)
        self.assertIs(is_execution(self.nest, schedule, self.order[:-1]), False)
        self.assertIs(is_execution(self.nest, schedule, []), False)

    def test_one_doubled(self):
        schedule = self.schedule("rows; f:;")
        self.assertIs(is_execution(self.nest, schedule, self.order + self.order[:1]), False)
        self.assertIs(is_execution(self.nest, schedule, self.order[:3] + self.order[:1]), False)

    def test_one_that_is_no_instance(self):
        schedule = self.schedule("rows; f:;")
        for wrong in ((0, (4,)), (0, (-1,)), (0, ()), (1, (0,))):
            self.assertIs(is_execution(self.nest, schedule, self.order + [wrong]), False)
            self.assertIs(is_execution(self.nest, schedule, self.order[:3] + [wrong]), False)

    def test_no_instances(self):
        nest = Nest(ONE, (-1,))
        schedule = self.schedule("rows seq; f: i;")
        self.assertIs(is_execution(nest, schedule, []), True)
        self.assertIs(is_execution(nest, schedule, [(0, (0,))]), False)

    def test_the_order_is_not_changed(self):
        order = self.order[::-1]
        is_execution(self.nest, self.schedule("rows seq; f: -i;"), order)
        self.assertEqual(order, self.order[::-1])

    def test_all_orders(self):
        chance = random.Random(29)
        nest = Nest(TWO, (1,))
        self.assertEqual(len(nest), 5)
        executions = 0
        for _ in range(25):
            schedule = Schedule.parse(random_schedule(chance, TWO), TWO)
            for order in permutations(nest):
                expected = not any(
                    is_before(schedule, (1,), late, early)
                    for at, late in enumerate(order) for early in order[:at]
                )
                executions += expected
                self.assertIs(is_execution(nest, schedule, list(order)), expected)
        self.assertGreater(executions, 25)


if __name__ == "__main__":
    unittest.main()
