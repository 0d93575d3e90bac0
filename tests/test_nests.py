"""Points 20 to 24: programs at sizes."""

import random
import unittest

from loopworks.errors import Outside, TooMany
from loopworks.nests import Nest, in_context
from loopworks.programs import Program
from tests.oracle import instances_of, writer_in
from tests.random_programs import random_program


def nest_of(text, *sizes):
    return Nest(Program.parse(text), sizes)


def instances(text, *sizes):
    return list(nest_of(text, *sizes))


class ContextTest(unittest.TestCase):
    def test_in_context(self):
        program = Program.parse("params n, m; context n >= 1 and n + m <= 4 and 2 divides m;")
        for sizes, held in (
            ((1, 2), True), ((1, 4), False), ((0, 2), False), ((1, 1), False), ((4, 0), True),
            ((5, 0), False), ((5, -2), True), ((50, -50), True), ((-50, -50), False),
        ):
            self.assertIs(in_context(program, sizes), held, sizes)

    def test_without_conditions_or_parameters(self):
        self.assertIs(in_context(Program.parse("params n;"), (-50,)), True)
        self.assertIs(in_context(Program.parse(""), ()), True)
        self.assertIs(in_context(Program.parse("context 0 >= 1;"), ()), False)

    def test_outside(self):
        text = "params n; context n >= 1 and n <= 7; array a; a = f();"
        for size in (1, 7):
            self.assertEqual(instances(text, size), [(0, ())])
        for size in (0, 8, -50):
            with self.assertRaises(Outside):
                nest_of(text, size)

    def test_the_greatest_and_the_least_sizes(self):
        text = "params n; array a[]; for i = n to n + 1 { a[i] = f(); }"
        self.assertEqual(instances(text, 50), [(0, (50,)), (0, (51,))])
        self.assertEqual(instances(text, -50), [(0, (-50,)), (0, (-49,))])


class InstancesTest(unittest.TestCase):
    def test_a_loop_takes_both_bounds(self):
        text = "params n; array a; for i = 1 to n { a = f(); }"
        self.assertEqual(instances(text, 3), [(0, (1,)), (0, (2,)), (0, (3,))])
        self.assertEqual(instances(text, 1), [(0, (1,))])
        self.assertEqual(instances(text, 0), [])
        self.assertEqual(instances(text, -9), [])

    def test_nested_loops(self):
        text = "params n; array a; for i = 0 to n { for j = i to n { a = f(); } }"
        self.assertEqual(
            [point for _, point in instances(text, 2)],
            [(0, 0), (0, 1), (0, 2), (1, 1), (1, 2), (2, 2)],
        )

    def test_negative_values(self):
        text = "array a; for i = -2 to -1 { for j = 2 * i to i - 1 { a = f(); } }"
        self.assertEqual(
            [point for _, point in instances(text)], [(-2, -4), (-2, -3), (-1, -2)]
        )

    def test_loops_behind_one_another(self):
        text = "array a; for i = 0 to 1 { a = f(); } for i = 0 to 1 { a = g(); }"
        self.assertEqual(instances(text), [(0, (0,)), (0, (1,)), (1, (0,)), (1, (1,))])

    def test_statements_in_one_loop(self):
        text = "array a; for i = 0 to 1 { a = f(); a = g(); }"
        self.assertEqual(instances(text), [(0, (0,)), (1, (0,)), (0, (1,)), (1, (1,))])

    def test_statements_around_an_inner_loop(self):
        text = "array a; for i = 0 to 1 { a = f(); for j = 7 to 8 { a = g(); } a = h(); }"
        self.assertEqual(
            instances(text),
            [
                (0, (0,)), (1, (0, 7)), (1, (0, 8)), (2, (0,)),
                (0, (1,)), (1, (1, 7)), (1, (1, 8)), (2, (1,)),
            ],
        )

    def test_inner_loops_behind_one_another(self):
        text = (
            "array a; for i = 0 to 1 { for j = 5 to 6 { a = f(); } for j = 1 to 2 { a = g(); } }"
            " a = h();"
        )
        self.assertEqual(
            instances(text),
            [
                (0, (0, 5)), (0, (0, 6)), (1, (0, 1)), (1, (0, 2)),
                (0, (1, 5)), (0, (1, 6)), (1, (1, 1)), (1, (1, 2)), (2, ()),
            ],
        )

    def test_a_statement_ahead_of_loops(self):
        text = "array a; a = f(); for i = -1 to 0 { a = g(); for j = -9 to -9 { a = h(); } }"
        self.assertEqual(
            instances(text),
            [(0, ()), (1, (-1,)), (2, (-1, -9)), (1, (0,)), (2, (0, -9))],
        )

    def test_conditionals(self):
        text = (
            "params n; array a; for i = 0 to 5 { if 2 divides i and i <= n { a = f(); }"
            " if i == 3 { a = g(); } } if n > 3 { a = h(); }"
        )
        self.assertEqual(
            instances(text, 4), [(0, (0,)), (0, (2,)), (1, (3,)), (0, (4,)), (2, ())]
        )
        self.assertEqual(instances(text, 3), [(0, (0,)), (0, (2,)), (1, (3,))])

    def test_conditionals_around_loops(self):
        text = (
            "params n; array a; for i = 0 to 2 { if i == n { for j = 0 to 1 { if j >= 1 {"
            " a = f(); } } } }"
        )
        self.assertEqual(instances(text, 1), [(0, (1, 1))])
        self.assertEqual(instances(text, 3), [])

    def test_several_bounds(self):
        text = (
            "params n, m; array a; for i = max(n, m, 0) to min(n + 2, m + 3, 5) { a = f(); }"
        )
        self.assertEqual(instances(text, 1, 2), [(0, (2,)), (0, (3,))])
        self.assertEqual(instances(text, 4, 4), [(0, (4,)), (0, (5,))])
        self.assertEqual(instances(text, -2, -3), [(0, (0,))])
        self.assertEqual(instances(text, 5, 1), [])

    def test_without_parameters_and_loops(self):
        self.assertEqual(instances(""), [])
        self.assertEqual(instances("array a; a = f(); a = g();"), [(0, ()), (1, ())])

    def test_names_of_loops_mean_the_innermost_ones(self):
        text = (
            "array a; for i = 0 to 1 { for j = 0 to 0 { a = f(); } }"
            " for j = 3 to 4 { for i = j to 4 { a = g(); } }"
        )
        self.assertEqual(
            instances(text), [(0, (0, 0)), (0, (1, 0)), (1, (3, 3)), (1, (3, 4)), (1, (4, 4))]
        )


class NestTest(unittest.TestCase):
    def setUp(self):
        self.program = Program.parse(
            "params n; array a[], s; for i = 0 to n { a[i] = f(a[i - 1], s); s = g(a[i], s); }"
        )
        self.nest = Nest(self.program, (1,))

    def test_attributes(self):
        self.assertTrue(self.nest.program == self.program)
        self.assertEqual(self.nest.sizes, (1,))
        self.assertEqual(self.nest.instances, ((0, (0,)), (1, (0,)), (0, (1,)), (1, (1,))))

    def test_iterating_twice(self):
        self.assertEqual(list(self.nest), list(self.nest.instances))
        self.assertEqual(list(self.nest), list(self.nest.instances))
        pairs = [(x, y) for x in self.nest for y in self.nest]
        self.assertEqual(len(pairs), 16)

    def test_len(self):
        self.assertEqual(len(self.nest), 4)
        self.assertEqual(len(Nest(self.program, (-1,))), 0)

    def test_in(self):
        for x in self.nest.instances:
            self.assertTrue(x in self.nest)
        for x in ((0, (2,)), (0, (-1,)), (2, (0,)), (0, ()), (0, (0, 0))):
            self.assertFalse(x in self.nest)

    def test_is_earlier(self):
        for at, one in enumerate(self.nest.instances):
            for number, other in enumerate(self.nest.instances):
                self.assertIs(self.nest.is_earlier(one, other), at < number)

    def test_cells(self):
        self.assertEqual(self.nest.written((0, (1,))), (0, (1,)))
        self.assertEqual(self.nest.written((1, (1,))), (1, ()))
        self.assertEqual(self.nest.cells_read((0, (0,))), ((0, (-1,)), (1, ())))
        self.assertEqual(self.nest.cells_read((1, (1,))), ((0, (1,)), (1, ())))

    def test_writers(self):
        self.assertEqual(self.nest.writer((0, (0,)), (0, (1,))), (0, (0,)))
        self.assertEqual(self.nest.writer((1, ()), (0, (1,))), (1, (0,)))
        self.assertEqual(self.nest.writer((0, (1,)), (1, (1,))), (0, (1,)))

    def test_no_writer(self):
        self.assertIsNone(self.nest.writer((0, (-1,)), (0, (0,))))
        self.assertIsNone(self.nest.writer((1, ()), (1, (0,))))
        self.assertIsNone(self.nest.writer((0, (1,)), (1, (0,))))
        self.assertIsNone(self.nest.last_writer((0, (2,))))

    def test_an_instance_that_reads_the_cell_it_writes(self):
        self.assertIsNone(self.nest.writer(self.nest.written((1, (0,))), (1, (0,))))
        self.assertEqual(self.nest.writer((1, ()), (1, (1,))), (1, (0,)))

    def test_last_writers(self):
        self.assertEqual(self.nest.last_writer((1, ())), (1, (1,)))
        self.assertEqual(self.nest.last_writer((0, (0,))), (0, (0,)))

    def test_cells_of_different_arrays_and_dimensions(self):
        nest = nest_of(
            "params n; array a[], b[]; temp c[,]; a[n] = f(); b[n] = g(); c[n, -n] = h(c[1, 2], b[0]);",
            2,
        )
        self.assertEqual([nest.written(x) for x in nest], [(0, (2,)), (1, (2,)), (2, (2, -2))])
        self.assertEqual(nest.cells_read((2, ())), ((2, (1, 2)), (1, (0,))))
        self.assertEqual(nest.last_writer((1, (2,))), (1, ()))
        self.assertEqual(nest.cells_read((0, ())), ())

    def test_a_cell_that_is_written_again(self):
        nest = nest_of("array a[]; for i = 0 to 2 { for j = 0 to 2 { a[i + j] = f(a[2]); } }")
        self.assertEqual(nest.last_writer((0, (2,))), (0, (2, 0)))
        self.assertEqual(nest.writer((0, (2,)), (0, (2, 0))), (0, (1, 1)))
        self.assertEqual(nest.writer((0, (2,)), (0, (2, 1))), (0, (2, 0)))
        self.assertIsNone(nest.writer((0, (2,)), (0, (0, 2))))


class TooManyTest(unittest.TestCase):
    def check(self, text, sizes, beyond):
        """The nest is made at the first sizes, and not at the other ones."""
        program = Program.parse(text)
        nest = Nest(program, sizes)
        with self.assertRaises(TooMany):
            Nest(program, beyond)
        return len(nest)

    def test_instances(self):
        loops = "for i = 1 to n { a = f(); } for i = 1 to m { a = g(); }"
        text = f"params n, m; array a; {loops}"
        self.assertEqual(len(nest_of(text, 50, 50)), 100)
        self.assertEqual(self.check(text + " a = h();", (50, 49), (50, 50)), 100)

    def test_instances_of_one_statement(self):
        text = "params n; array a; for i = 1 to 2 * n + 4 { a = f(); }"
        self.assertEqual(self.check(text, (48,), (49,)), 100)
        text = "params n; array a; for i = 1 to n + 51 { a = f(); }"
        self.assertEqual(self.check(text, (49,), (50,)), 100)

    def test_points_of_the_first_loop(self):
        # The sizes 50 and 50 give -499 or -500 to 500.
        loop = (
            "params n, m; array a; for i = {} - 4 * n - 4 * m to 4 * n + 4 * m + 100 {{"
            " if i == 0 {{ a = f(); }} }}"
        )
        self.assertEqual(len(nest_of(loop.format("0 - 99"), 50, 50)), 1)
        with self.assertRaises(TooMany):
            nest_of(loop.format("0 - 100"), 50, 50)

    def test_points_of_the_first_two_loops(self):
        text = (
            "params n, m; array a; for i = 1 to n { for j = 1 to m + 27 { if i + j == 2 {"
            " a = f(); } } }"
        )
        self.assertEqual(self.check(text, (20, 23), (13, 50)), 1)
        self.assertEqual(self.check(text, (20, 23), (50, 50)), 1)

    def test_points_of_three_loops(self):
        text = (
            "params n, m; array a; for i = 1 to n { for j = 1 to m { for k = 1 to n + 3 {"
            " if i + j + k == 3 { a = f(); } } } }"
        )
        self.assertEqual(self.check(text, (7, 14), (7, 15)), 1)
        text = text.replace("n + 3", "13")
        self.assertEqual(self.check(text, (7, 10), (7, 11)), 1)

    def test_points_are_counted_together(self):
        triangle = (
            "params n; array a; for i = 1 to n { for j = i to n { if i == j and i <= 9 {"
            " a = f(); } } }"
        )
        self.assertEqual(self.check(triangle, (44,), (45,)), 9)

    def test_loops_that_take_nothing_count_nothing(self):
        # 1000 points at the first sizes and 1001 at the second ones; many values of i have none.
        text = (
            "params n, m; array a; for i = 1 to 100 { for j = 1 to min(n + 34 - i, m) {"
            " if i + j == 2 { a = f(); } } }"
        )
        self.assertEqual(self.check(text, (19, 25), (50, 13)), 1)

    def test_many_points_around_no_instance(self):
        outer = (
            "params n, m; array a; for i = - 100 - 4 * n - 4 * m to 4 * n + 4 * m + 100 {"
            " for j = 1 to 0 { a = f(); } }"
        )
        self.assertEqual(self.check(outer, (50, 49), (50, 50)), 0)
        inner = (
            "params n; array a; for i = 1 to n { for j = 1 to n { for k = 1 to 0 { a = f(); } } }"
        )
        self.assertEqual(self.check(inner, (31,), (32,)), 0)

    def test_conditions_do_not_make_points_fewer(self):
        text = (
            "params n; array a; if n < 0 { for i = 1 to 40 { for j = 1 to n { a = f(); } } }"
        )
        self.assertEqual(self.check(text, (25,), (26,)), 0)

    def test_each_statement_counts_alone(self):
        loops = "for i = 0 to n { for j = 1 to 20 { if i + j == 2 { a = NAME(); } } } "
        text = "params n; array a; " + loops.replace("NAME", "f") + loops.replace("NAME", "g")
        self.assertEqual(self.check(text, (49,), (50,)), 4)

    def test_outside_comes_first(self):
        text = "params n; context n <= 5; array a; for i = 1 to 4 * n { a = f(); }"
        with self.assertRaises(Outside):
            nest_of(text, 50)


class OracleTest(unittest.TestCase):
    def test_random_programs(self):
        chance = random.Random(22)
        seen = 0
        while seen < 250:
            program = Program.parse(random_program(chance))
            sizes = tuple([chance.randrange(-2, 6) for _ in program.parameters])
            try:
                nest = Nest(program, sizes)
            except (Outside, TooMany):
                continue
            if len(nest) > 1:
                seen += 1
                self.compare(nest, instances_of(program.text, sizes))

    def compare(self, nest, run):
        self.assertEqual(list(nest), [x for x, _, _ in run])
        for at, (x, written, reads) in enumerate(run):
            self.assertEqual(nest.written(x), written)
            self.assertEqual(nest.cells_read(x), reads)
            for cell in reads + (written,):
                self.assertEqual(nest.writer(cell, x), writer_in(run, cell, at))
                self.assertEqual(nest.last_writer(cell), writer_in(run, cell, len(run)))


if __name__ == "__main__":
    unittest.main()
