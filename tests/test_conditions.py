"""Points 71 and 72: conditions, and those of statements under a schedule."""

import random
import unittest

from loopworks.conditions import (
    conditions_up_to, eliminate, estimates, least_form, reduced, statement_conditions,
)
from loopworks.errors import Outside, TooMany
from loopworks.expressions import value_at
from loopworks.nests import Nest
from loopworks.programs import Program
from loopworks.schedules import Schedule, time_of
from tests.random_programs import random_program
from tests.random_systems import box, random_expression
from tests.test_schedules import random_schedule


class Over:
    """Expressions over variables with names, of texts; independent of the package."""

    def __init__(self, names):
        self.names = names.split()

    def all(self, *texts):
        return [self.one(text) for text in texts]

    def one(self, text):
        zeros = dict.fromkeys(self.names, 0)
        constant = eval(text, {}, zeros)
        return tuple([eval(text, {}, {**zeros, n: 1}) - constant for n in self.names]) + (constant,)


class ReducedTest(unittest.TestCase):
    def test_division(self):
        self.assertEqual(reduced((4, 6, 8)), (2, 3, 4))
        self.assertEqual(reduced((4, 6, 9)), (2, 3, 4))
        self.assertEqual(reduced((4, -6, -9)), (2, -3, -5))
        self.assertEqual(reduced((0, -3, -1)), (0, -1, -1))
        self.assertEqual(reduced((-5, 7)), (-1, 1))
        self.assertEqual(reduced((-5, -7)), (-1, -2))
        self.assertEqual(reduced((3, 5, 9)), (3, 5, 9))

    def test_coefficients_that_are_all_0(self):
        for constant in (0, 7, -7):
            self.assertEqual(reduced((0, 0, constant)), (0, 0, constant))
            self.assertEqual(reduced((constant,)), (constant,))

    def test_the_same_points(self):
        chance = random.Random(71)
        for _ in range(200):
            condition = random_expression(chance, 2, 6)
            for point in box(2, 4):
                self.assertEqual(value_at(condition, point) >= 0, value_at(reduced(condition), point) >= 0)


class LeastFormTest(unittest.TestCase):
    def test_equal_coefficients(self):
        self.assertEqual(least_form([(1, 2, 5), (0, 1, 1), (1, 2, 3)]), [(1, 2, 3), (0, 1, 1)])
        self.assertEqual(least_form([(1, 2, 3), (0, 1, 1), (1, 2, 5)]), [(1, 2, 3), (0, 1, 1)])
        self.assertEqual(
            least_form([(0, 1, 1), (2, 4, 9), (1, 2, 7), (0, 3, -1), (3, 6, 8), (0, 1, 0)]), [(0, 1, -1), (1, 2, 2)]
        )
        self.assertEqual(least_form([(1, 5), (1, 4), (1, 3), (-1, 4), (-1, 6)]), [(1, 3), (-1, 4)])
        self.assertEqual(least_form([(1, 0, 4), (-1, 0, -4)]), [(1, 0, 4), (-1, 0, -4)])

    def test_conditions_that_always_hold(self):
        self.assertEqual(least_form([(0, 0, 5), (1, 0, 2), (0, 0, 0)]), [(1, 0, 2)])
        self.assertEqual(least_form([(0, 0, 5), (1, 0, 2), (0, 0, -4)]), [(0, 0, -4), (1, 0, 2)])
        self.assertEqual(least_form([(0, 0, -1), (0, 0, 5), (0, 0, -3)]), [(0, 0, -3)])
        self.assertEqual(least_form([(3,), (-3,), (2,)]), [(-3,)])
        self.assertEqual(least_form([(3,)]), [])
        self.assertEqual(least_form([]), [])

    def test_what_is_given_stays(self):
        given = [(2, 4, 9), (1, 2, 7), (0, 0, 3)]
        least_form(given).append(1)
        self.assertEqual(given, [(2, 4, 9), (1, 2, 7), (0, 0, 3)])
        self.assertEqual(least_form(tuple(given)), [(1, 2, 4)])


class EliminateTest(unittest.TestCase):
    def test_both_sides(self):
        self.assertEqual(eliminate([(1, -1, 0), (-1, 2, 3), (0, 2, 7)], 0), [(0, 1, 3)])
        # 2 x - y >= 0 and 7 - 3 x >= 0: 2 (7 - 3 x) + 3 (2 x - y)
        self.assertEqual(eliminate([(2, -1, 0), (-3, 0, 7)], 0), [(0, -1, 4)])
        self.assertEqual(eliminate([(-3, 0, 7), (2, -1, 0)], 0), [(0, -1, 4)])
        self.assertEqual(eliminate([(5, 1, 4), (7, -1, 1)], 1), [(1, 0, 0)])

    def test_the_order(self):
        given = [
            (0, 3, 1, 0), (1, 1, 0, 10), (-1, 0, 0, 1), (0, 0, 1, 5), (2, 0, 1, 20), (-1, 1, 1, 2), (0, 1, 0, 9),
        ]
        self.assertEqual(
            eliminate(given, 0),
            # Of the pairs, (0, 1, 0, 11) and (0, 0, 1, 22) are worse than what is there already.
            [(0, 3, 1, 0), (0, 0, 1, 5), (0, 1, 0, 9), (0, 2, 1, 12), (0, 2, 3, 24)],
        )

    def test_no_conditions_on_one_side(self):
        self.assertEqual(eliminate([(1, 2, 3), (0, 2, 4), (2, 0, 1)], 0), [(0, 1, 2)])
        self.assertEqual(eliminate([(-1, 2, 3), (0, 2, 4), (-2, 0, 1)], 0), [(0, 1, 2)])
        self.assertEqual(eliminate([(1, 2, 3)], 0), [])
        self.assertEqual(eliminate([(0, 4, 3), (0, 0, 3)], 0), [(0, 1, 0)])
        self.assertEqual(eliminate([], 0), [])

    def test_the_impossible_stays(self):
        self.assertEqual(eliminate([(1, 0, -3), (-1, 0, 2)], 0), [(0, 0, -1)])

    def counted(self, others, lowers, uppers):
        rows = self.others(others)
        rows += [(1, 1, 100 * k, k) for k in range(lowers)] + [(-1, 0, k, k) for k in range(uppers)]
        return eliminate(rows, 0)

    def others(self, count):
        return [(0, 2, 2 * k + 1, k) for k in range(count)]

    def test_the_greatest_number_of_conditions(self):
        for others, lowers, uppers in ((0, 8, 8), (15, 7, 7), (63, 1, 1), (64, 0, 9), (100, 0, 9), (100, 0, 0)):
            count = others + lowers * uppers
            self.assertEqual(len(self.counted(others, lowers, uppers)), count)
        for others, lowers, uppers in ((1, 8, 8), (16, 7, 7), (64, 1, 1), (0, 5, 13), (200, 3, 3)):
            found = self.counted(others, lowers, uppers)
            self.assertEqual(found, self.others(others))

    def test_before_they_are_brought_into_their_least_form(self):
        # 64 and 65 new conditions, which are few in their least form.
        for count, expected in ((8, [(0, 1, 0)]), (9, [(0, 1, 3)])):
            rows = [(0, 1, 3)] * (1 if count == 9 else 0) + [(1, 1, k) for k in range(8)]
            self.assertEqual(eliminate(rows + [(-1, 0, k) for k in range(8)], 0), expected)

    def test_points_stay_points(self):
        chance = random.Random(72)
        for _ in range(200):
            rows = [random_expression(chance, 3, 3) for _ in range(chance.randint(1, 6))]
            k = chance.randrange(3)
            behind = eliminate(rows, k)
            self.assertTrue(all(row[k] == 0 and len(row) == 4 for row in behind))
            self.assertEqual(behind, least_form(behind))
            for point in box(3, 2):
                if all(value_at(row, point) >= 0 for row in rows):
                    self.assertTrue(all(value_at(row, point) >= 0 for row in behind))


def read(text, schedule):
    program = Program.parse(text)
    return program, Schedule.parse(schedule, program)


NEST = (
    "params n, m; array a[]; for i = max(0, n - 3) to min(m, 2 * n, 9) { for j = i to n + i { "
    "if i + 2 * j >= 4 and i - j == n and 3 divides i + 1 { a[i] = f(); } } a[0] = g(); } a[1] = h();"
)
ROWS = "rows seq, par; f: floor(2 * i - j + m, 3), n - j; g: i, 4; h: m, floor(n - 1, 2);"


class StatementTest(unittest.TestCase):
    def setUp(self):
        self.given = read(NEST, ROWS)

    def test_conditions(self):
        self.assertEqual(
            statement_conditions(*self.given, 0),
            Over("n m s t i j").all(
                "2 * i - j + m - 3 * s", "3 * s + 2 - 2 * i + j - m", "n - j - t", "t - n + j",
                "i", "i - n + 3", "m - i", "2 * n - i", "9 - i", "j - i", "n + i - j",
                "i + 2 * j - 4", "i - j - n", "n + j - i",
            ),
        )
        self.assertEqual(
            statement_conditions(*self.given, 1),
            Over("n m s t i").all(
                "i - s", "s - i", "4 - t", "t - 4", "i", "i - n + 3", "m - i", "2 * n - i", "9 - i",
            ),
        )
        self.assertEqual(
            statement_conditions(*self.given, 2),
            Over("n m s t").all("m - s", "s - m", "n - 1 - 2 * t", "2 * t + 1 - n + 1"),
        )

    def test_estimates(self):
        # 2 i - j + m: for h, j is i and then i is m; for l, j is n + i, and then i is 0.
        self.assertEqual(
            estimates(*self.given, 0),
            Over("n m s t i j").all("m + m - 3 * s", "3 * s + 2 - m + n", "n - t", "t - n + n + m"),
        )
        self.assertEqual(
            estimates(*self.given, 1), Over("n m s t i").all("m - s", "s", "4 - t", "t - 4")
        )
        self.assertEqual(
            estimates(*self.given, 2),
            Over("n m s t").all("m - s", "s - m", "n - 1 - 2 * t", "2 * t + 1 - n + 1"),
        )

    def test_a_coefficient_that_changes_its_sign(self):
        # In 2 i - 3 j, with j = i, the coefficient of i becomes -1; in -2 j + i, with j = -i, 3.
        text = "params n; array a[]; for i = 1 to n { for j = i to n + 4 * i { a[i] = f(); } }"
        given = read(text, "rows seq; f: 2 * i - 3 * j;")
        self.assertEqual(
            estimates(*given, 0), Over("n t i j").all("-1 - t", "t - (2 * n - 3 * (n + 4 * n))")
        )
        text = "params n; array a[]; for i = 1 to n { for j = -i to n { a[i] = f(); } }"
        given = read(text, "rows seq; f: i - 2 * j;")
        self.assertEqual(estimates(*given, 0), Over("n t i j").all("3 * n - t", "t - 1 + 2 * n"))

    def test_a_coefficient_that_becomes_0(self):
        # In i - j with j = i, nothing is left of i.
        text = "params n; array a[]; for i = 1 to n { for j = i to n { a[i] = f(); } }"
        given = read(text, "rows seq; f: i - j;")
        self.assertEqual(estimates(*given, 0), Over("n t i j").all("-t", "t - 1 + n"))

    def test_the_first_of_several_bounds(self):
        text = "params n, m; array a[]; for i = max(3, n, m) to min(m, n, 7) { a[i] = f(); }"
        given = read(text, "rows seq, par; f: 2 * i + n, 1 - i;")
        self.assertEqual(
            estimates(*given, 0),
            Over("n m s t i").all("2 * m + n - s", "s - 6 - n", "1 - 3 - t", "t - 1 + m"),
        )

    def test_conditions_up_to(self):
        text = "params n; context n >= 1; array a[,]; for i = 0 to n - 1 { for j = 0 to n - 1 { a[i, j] = f(); } }"
        given = read(text, "rows seq, par; f: i + j, j;")
        over = Over("n s t i j")
        first = over.all("2 * n - 2 - s", "s", "n - 1")
        self.assertEqual(conditions_up_to(*given, 0, 1), first)
        self.assertEqual(
            conditions_up_to(*given, 0, 2),
            over.all("2 * n - 2 - s", "s", "n - 1 - t", "t", "n - 1", "s - t", "n - 1 - s + t"),
        )
        self.assertEqual(
            conditions_up_to(*given, 0, 4),
            over.all(
                "i + j - s", "s - i - j", "j - t", "t - j", "i", "n - 1 - i", "j", "n - 1 - j",
                "2 * n - 2 - s", "s", "n - 1 - t", "t",
            ),
        )

    def test_the_estimates_are_brought_into_the_least_form_too(self):
        # Without loops, the estimates are the conditions again.
        given = read("params n; array a; a = f();", "rows seq, par; f: n, floor(2 * n + 1, 2);")
        over = Over("n s t")
        self.assertEqual(conditions_up_to(*given, 0, 2), over.all("n - s", "s - n", "n - t", "t - n"))
        self.assertEqual(conditions_up_to(*given, 0, 1), over.all("n - s", "s - n"))

    def test_new_lists(self):
        for function in (statement_conditions, estimates):
            function(*self.given, 0).append(1)
            self.assertNotIn(1, function(*self.given, 0))
        conditions_up_to(*self.given, 0, 3).append(1)
        self.assertNotIn(1, conditions_up_to(*self.given, 0, 3))


class InstancesTest(unittest.TestCase):
    """The conditions hold at the instances, and with them only there."""

    def test_small_programs(self):
        chance = random.Random(73)
        counts = [0, 0]
        for _ in range(600):
            program = Program.parse(random_program(chance))
            schedule = Schedule.parse(random_schedule(chance, program), program)
            sizes = tuple([chance.randrange(-1, 4) for _ in program.parameters])
            try:
                nest = Nest(program, sizes)
            except (Outside, TooMany):
                continue
            for number in range(len(program.statements)):
                self.check_statement(program, schedule, nest, number, counts)
        self.assertGreater(min(counts), 300)

    def check_statement(self, program, schedule, nest, number, counts):
        statement = program.statements[number]
        wanted = statement_conditions(program, schedule, number)
        first = len(program.parameters)
        ups = [
            conditions_up_to(program, schedule, number, index)
            for index in range(first, first + len(schedule.marks) + len(statement.loops))
        ]
        divisors = [row for row in statement.conditions if row[0] == "div"]
        points = [point for s, point in nest if s == number]
        for point in points:
            whole = nest.sizes + time_of(schedule, nest.sizes, (number, point)) + point
            for conditions in [wanted, estimates(program, schedule, number)] + ups:
                self.assertTrue(all(value_at(row, whole) >= 0 for row in conditions))
            counts[0] += 1
        if divisors or not points:
            return
        for at in range(len(points[0])):
            for step in (-3, -1, 1, 3):
                point = points[0][:at] + (points[0][at] + step,) + points[0][at + 1:]
                whole = nest.sizes + time_of(schedule, nest.sizes, (number, point)) + point
                held = all(value_at(row, whole) >= 0 for row in wanted)
                self.assertEqual(held, point in points)
                counts[1] += 1


if __name__ == "__main__":
    unittest.main()
