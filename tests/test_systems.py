"""Points 41 to 43: systems and their points, reduced constraints and reduced systems."""

import random
import unittest

from loopworks.errors import InvalidSystem
from loopworks.expressions import holds
from loopworks.systems import System, reduced_constraint
from tests.random_systems import box, points_in_box, random_constraint, random_system

# Over two variables, none of these is a constraint.
NO_CONSTRAINTS = (
    ("ge", (1, 2)), ("ge", (1, 2, 3, 4)), ("ge", ()), ("eq", (1,)), ("div", 2, (1, 2)),
    ("div", 2, (1, 2, 3, 4)), ("div", 0, (1, 2, 3)), ("div", -1, (1, 2, 3)), ("div", (1, 2, 3)),
    ("div", (1, 2, 3), 2), ("ge", 2, (1, 2, 3)), ("eq", 1, (1, 2, 3)), ("ge", (1, 2, 3), 2),
    ("gt", (1, 2, 3)), ("le", (1, 2, 3)), ("GE", (1, 2, 3)), ("", (1, 2, 3)), ("mod", 2, (1, 2, 3)),
    ("ge",), ("div", 2), (), ("ge", 5), ("ge", None), ("div", "2", (1, 2, 3)), ("div", None, (1, 2, 3)),
    ("ge", ("1", 2, 3)), ("ge", (1, None, 3)), ("ge", ((1,), 2, 3)), ("div", 2, 3, (1, 2, 3)),
    (1, 2, 3), "ge", None, 7, ("ge", "abc"), (("ge",), (1, 2, 3)), ("ge", (True, 2, 3)),
    ("div", True, (1, 2, 3)),
)


class MakingTest(unittest.TestCase):
    def test_attributes(self):
        rows = [("ge", (1, 2, 3)), ("eq", (0, 0, 0)), ("div", 7, (-1, 5, 9))]
        system = System(2, rows)
        self.assertEqual(system.variables, 2)
        self.assertEqual(system.rows, tuple(rows))
        self.assertIsInstance(system.rows, tuple)
        self.assertEqual(System(2, tuple(rows)).rows, tuple(rows))
        self.assertEqual(len(system), 3)

    def test_each_kind_over_several_numbers_of_variables(self):
        for variables in range(5):
            expression = tuple(range(1, variables + 2))
            rows = (("ge", expression), ("eq", expression), ("div", 3, expression))
            self.assertEqual(System(variables, rows).rows, rows)
            for row in rows:
                for other in (variables - 1, variables + 1):
                    with self.assertRaises(InvalidSystem):
                        System(other, [row])

    def test_no_rows(self):
        for variables in (0, 1, 4):
            system = System(variables, [])
            self.assertEqual((len(system), system.rows, system.weight), (0, (), 1))
            self.assertIs((0,) * variables in system, True)

    def test_what_is_no_constraint(self):
        good = ("ge", (1, 2, 3))
        for row in NO_CONSTRAINTS:
            for rows in ([row], [good, row], (row, good)):
                with self.assertRaises(InvalidSystem, msg=row):
                    System(2, rows)
            with self.assertRaises(InvalidSystem, msg=row):
                System(2, [good]) + row
            with self.assertRaises(InvalidSystem, msg=row):
                System(2, []) + row

    def test_the_list_is_changed_afterwards(self):
        rows = [("ge", (1, 0)), ("ge", (2, 0))]
        system = System(1, rows)
        rows[0] = ("ge", (5, 5))
        rows.append(("eq", (1, 1)))
        self.assertEqual(system.rows, (("ge", (1, 0)), ("ge", (2, 0))))
        self.assertEqual(len(rows), 3)

    def test_great_numbers(self):
        row = ("div", 10 ** 40, (10 ** 50, -(10 ** 60)))
        self.assertEqual(System(1, [row]).rows, (row,))


class ComparingTest(unittest.TestCase):
    def test_equal(self):
        rows = [("ge", (1, 2, 3)), ("eq", (1, 2, 3))]
        self.assertTrue(System(2, rows) == System(2, tuple(rows)))
        self.assertFalse(System(2, rows) != System(2, rows))
        self.assertFalse(System(2, rows) == System(2, rows[::-1]))
        self.assertFalse(System(2, rows) == System(2, rows[:1]))
        self.assertFalse(System(2, rows) == System(2, rows + rows[:1]))
        self.assertFalse(System(2, rows) == System(2, [("ge", (1, 2, 4)), ("eq", (1, 2, 3))]))
        self.assertTrue(System(2, rows) != System(2, []))

    def test_the_number_of_variables_counts(self):
        self.assertFalse(System(2, []) == System(3, []))
        self.assertTrue(System(0, []) == System(0, ()))

    def test_other_things(self):
        system = System(1, [("ge", (1, 2))])
        self.assertFalse(system == system.rows)
        self.assertFalse(system == None)  # noqa: E711
        self.assertFalse(system == 1)


class AddingTest(unittest.TestCase):
    def test_the_constraint_stands_ahead(self):
        system = System(1, [("ge", (1, 2))])
        longer = system + ("div", 2, (1, 0))
        self.assertEqual(longer.rows, (("div", 2, (1, 0)), ("ge", (1, 2))))
        self.assertEqual((longer.variables, len(longer), longer.weight), (1, 2, 3))
        self.assertEqual(system.rows, (("ge", (1, 2)),))
        self.assertEqual((longer + ("ge", (1, 2))).rows[0], ("ge", (1, 2)))

    def test_without_variables(self):
        self.assertEqual((System(0, []) + ("eq", (0,))).rows, (("eq", (0,)),))


class PointsTest(unittest.TestCase):
    def test_each_kind(self):
        self.assertIs((3,) in System(1, [("ge", (2, -6))]), True)
        self.assertIs((2,) in System(1, [("ge", (2, -6))]), False)
        self.assertIs((3,) in System(1, [("eq", (2, -6))]), True)
        self.assertIs((4,) in System(1, [("eq", (2, -6))]), False)
        self.assertIs((-1,) in System(1, [("div", 4, (2, -6))]), True)
        self.assertIs((0,) in System(1, [("div", 4, (2, -6))]), False)
        self.assertIs((3,) in System(1, [("div", 4, (2, -6))]), True)

    def test_all_must_hold(self):
        system = System(2, [("ge", (1, 0, 0)), ("ge", (0, 1, 0)), ("eq", (1, 1, -2))])
        self.assertEqual([p for p in box(2, 3) if p in system], [(0, 2), (1, 1), (2, 0)])

    def test_tuples_of_another_length(self):
        system = System(2, [("ge", (1, 1, 5))])
        self.assertIs((0, 0) in system, True)
        for point in ((), (0,), (0, 0, 0), (1, 2, 3, 4)):
            self.assertIs(point in system, False)
            self.assertIs(point in System(2, []), False)

    def test_without_variables(self):
        self.assertIs(() in System(0, []), True)
        self.assertIs((0,) in System(0, []), False)
        self.assertIs(() in System(0, [("ge", (0,)), ("div", 3, (6,)), ("eq", (0,))]), True)
        for row in (("ge", (-1,)), ("eq", (2,)), ("eq", (-2,)), ("div", 3, (4,))):
            self.assertIs(() in System(0, [row]), False)

    def test_great_numbers(self):
        system = System(1, [("eq", (10 ** 30, -(10 ** 31)))])
        self.assertIs((10,) in system, True)
        self.assertIs((11,) in system, False)


class PropertiesTest(unittest.TestCase):
    def test_weight(self):
        for count in range(5):
            self.assertEqual(System(1, [("ge", (1, k)) for k in range(count)]).weight, count + 1)

    def test_is_impossible(self):
        for variables in range(4):
            row = ("ge", (0,) * variables + (-1,))
            self.assertIs(System(variables, [row]).is_impossible, True)
            self.assertIs(System(variables, [row, row]).is_impossible, False)
            self.assertIs(System(variables, []).is_impossible, False)
            for other in (("ge", (0,) * variables + (-2,)), ("eq", (0,) * variables + (-1,))):
                self.assertIs(System(variables, [other]).is_impossible, False)
                self.assertIs(System(variables, [other]).reduced().is_impossible, True)


class ReducedConstraintTest(unittest.TestCase):
    def check(self, *pairs):
        for constraint, expected in pairs:
            self.assertEqual(reduced_constraint(constraint), expected, constraint)

    def test_ge(self):
        self.check(
            (("ge", (2, 4, 5)), ("ge", (1, 2, 2))), (("ge", (2, 4, -5)), ("ge", (1, 2, -3))),
            (("ge", (-2, 4, -1)), ("ge", (-1, 2, -1))), (("ge", (-3, 1)), ("ge", (-1, 0))),
            (("ge", (-3, -1)), ("ge", (-1, -1))), (("ge", (6, 0, 9, 4)), ("ge", (2, 0, 3, 1))),
            (("ge", (0, 5, 5)), ("ge", (0, 1, 1))), (("ge", (3, 5, 7)), ("ge", (3, 5, 7))),
            (("ge", (4, 6)), ("ge", (1, 1))), (("ge", (4, -6)), ("ge", (1, -2))),
        )

    def test_ge_without_variables(self):
        self.check(
            (("ge", (0, 0, 0)), None), (("ge", (0, 0, 7)), None), (("ge", (5,)), None),
            (("ge", (0, 0, -1)), ("ge", (0, 0, -1))), (("ge", (0, -9)), ("ge", (0, -1))),
            (("ge", (-3,)), ("ge", (-1,))), (("ge", (0,)), None),
        )

    def test_eq(self):
        self.check(
            (("eq", (2, 4, 6)), ("eq", (1, 2, 3))), (("eq", (-2, 4, 6)), ("eq", (1, -2, -3))),
            (("eq", (0, -3, 6)), ("eq", (0, 1, -2))), (("eq", (2, 4, 5)), ("ge", (0, 0, -1))),
            (("eq", (0, -1, 0)), ("eq", (0, 1, 0))), (("eq", (3, -5, 1)), ("eq", (3, -5, 1))),
            (("eq", (-3, -5, 1)), ("eq", (3, 5, -1))), (("eq", (-2, -3)), ("ge", (0, -1))),
        )

    def test_eq_without_variables(self):
        self.check(
            (("eq", (0, 0, 0)), None), (("eq", (0,)), None), (("eq", (0, 0, 1)), ("ge", (0, 0, -1))),
            (("eq", (0, -4)), ("ge", (0, -1))), (("eq", (3,)), ("ge", (-1,))),
        )

    def test_div(self):
        self.check(
            (("div", 6, (2, 4, 8)), ("div", 3, (1, 2, 1))),
            (("div", 6, (2, 4, 7)), ("ge", (0, 0, -1))), (("div", 6, (-1, 7, -1)), ("div", 6, (5, 1, 5))),
            (("div", 4, (4, 8, 12)), None), (("div", 4, (4, 8, 13)), ("ge", (0, 0, -1))),
            (("div", 1, (3, 5, 7)), None), (("div", 6, (9, 3)), ("div", 2, (1, 1))),
            (("div", 6, (-9, 3)), ("div", 2, (1, 1))), (("div", 5, (10, 3)), ("ge", (0, -1))),
            (("div", 5, (0, 10)), None), (("div", 8, (12, -4)), ("div", 2, (1, 1))),
        )

    def test_div_without_variables(self):
        self.check(
            (("div", 3, (6,)), None), (("div", 3, (-6,)), None), (("div", 3, (7,)), ("ge", (-1,))),
            (("div", 3, (0, 0, -1)), ("ge", (0, 0, -1))), (("div", 1, (5,)), None),
        )

    def test_great_numbers(self):
        great = 10 ** 30
        self.check(
            (("ge", (2 * great, 4 * great, 5 * great + 1)), ("ge", (1, 2, 2))),
            (("ge", (great, 1, -great)), ("ge", (great, 1, -great))),
            (("eq", (-great, great, 7 * great)), ("eq", (1, -1, -7))),
            (("div", 2 * great, (great, 3 * great)), ("div", 2, (1, 1))),
            (("div", great, (great + 1, -1)), ("div", great, (1, great - 1))),
        )

    def test_the_same_points(self):
        chance = random.Random(42)
        outcomes = []
        for _ in range(2000):
            constraint = random_constraint(chance, chance.randrange(3), 6)
            variables = len(constraint[-1]) - 1
            reduced = reduced_constraint(constraint)
            outcomes.append("out" if reduced is None else reduced[0])
            for point in box(variables, 3):
                expected = holds(constraint, point)
                self.assertIs(reduced is None or holds(reduced, point), expected)
            if reduced is not None:
                self.assertEqual(reduced_constraint(reduced), reduced)
        for outcome in ("out", "ge", "eq", "div"):
            self.assertGreater(outcomes.count(outcome), 30)


class ReducedSystemTest(unittest.TestCase):
    def check(self, variables, rows, expected):
        self.assertEqual(System(variables, rows).reduced().rows, tuple(expected))
        self.assertEqual(System(variables, rows).reduced().variables, variables)

    def test_in_order(self):
        self.check(
            2, [("div", 4, (2, 0, 6)), ("ge", (0, 0, 4)), ("eq", (0, -2, 2)), ("ge", (3, 3, 4))],
            [("div", 2, (1, 0, 1)), ("eq", (0, 1, -1)), ("ge", (1, 1, 1))],
        )
        self.check(2, [], [])
        self.check(1, [("ge", (0, 3)), ("eq", (0, 0)), ("div", 2, (0, 2))], [])

    def test_an_impossible_one_among_others(self):
        others = [("ge", (1, 0, 0)), ("eq", (0, 1, 0)), ("div", 2, (1, 0, 0))]
        for row in (("ge", (0, 0, -3)), ("eq", (2, 4, 1)), ("div", 4, (2, 2, 1)), ("eq", (0, 0, 5))):
            for at in range(4):
                self.check(2, others[:at] + [row] + others[at:], [("ge", (0, 0, -1))])
        self.check(0, [("ge", (4,)), ("div", 2, (3,))], [("ge", (-1,))])

    def test_equal_ones(self):
        self.check(
            1, [("eq", (2, 4)), ("div", 4, (1, 3)), ("eq", (-1, -2)), ("div", 8, (2, 14))],
            [("eq", (1, 2)), ("div", 4, (1, 3))],
        )
        self.check(1, [("ge", (2, 4)), ("ge", (3, 7)), ("ge", (1, 2))], [("ge", (1, 2))])
        self.check(
            1, [("div", 4, (1, 3)), ("div", 3, (1, 3)), ("div", 4, (1, 2))],
            [("div", 4, (1, 3)), ("div", 3, (1, 0)), ("div", 4, (1, 2))],
        )

    def test_bounds_with_the_same_coefficients(self):
        self.check(
            2, [("ge", (1, 1, 5)), ("ge", (1, 0, 0)), ("ge", (2, 2, 7)), ("ge", (1, 1, 4))],
            [("ge", (1, 1, 3)), ("ge", (1, 0, 0))],
        )
        self.check(1, [("ge", (1, -5)), ("ge", (-1, 4)), ("ge", (1, 2))], [("ge", (1, -5)), ("ge", (-1, 4))])
        self.check(1, [("eq", (1, 5)), ("ge", (1, 3)), ("eq", (1, 2))], [("eq", (1, 5)), ("ge", (1, 3)), ("eq", (1, 2))])

    def test_a_reduced_system_reduced_again(self):
        chance = random.Random(43)
        lengths = []
        for _ in range(500):
            system = random_system(chance, chance.randrange(4), chance.randrange(7))
            reduced = system.reduced()
            self.assertTrue(reduced.reduced() == reduced)
            lengths.append(len(reduced))
            self.assertEqual(points_in_box(reduced, 2), points_in_box(system, 2))
        self.assertGreater(max(lengths), 4)

    def test_the_system_stays(self):
        system = System(1, [("ge", (2, 5)), ("ge", (2, 5))])
        system.reduced()
        self.assertEqual(system.rows, (("ge", (2, 5)), ("ge", (2, 5))))

    def test_by_the_words(self):
        chance = random.Random(44)
        for _ in range(500):
            system = random_system(chance, 2, chance.randrange(8), 2)
            self.assertEqual(system.reduced().rows, reduced_by_words(system))


def reduced_by_words(system):
    """Point 43, word by word, with the constraints reduced already."""
    rows = [reduced_constraint(row) for row in system.rows]
    impossible = ("ge", (0,) * system.variables + (-1,))
    if impossible in rows:
        return (impossible,)
    found = []
    for row in [row for row in rows if row is not None]:
        if row[0] == "ge":
            same = [other for other in rows if other and other[:1] == ("ge",) and other[1][:-1] == row[1][:-1]]
            row = min(same)
        if row not in found:
            found.append(row)
    return tuple(found)


if __name__ == "__main__":
    unittest.main()
