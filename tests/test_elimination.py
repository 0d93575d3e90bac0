"""Points 44 to 46: the cases of the elimination of a variable, and points that are lifted."""

import random
import unittest
from math import lcm

from loopworks.elimination import case_count, cases, lift
from loopworks.errors import InvalidPoint
from loopworks.systems import System
from tests.random_systems import box, points_in_box, random_system


def rows_of(variables, rows, k):
    return [case.rows for case in cases(System(variables, rows), k)]


class EquationsTest(unittest.TestCase):
    """Case 1 of point 45."""

    def test_the_first_one(self):
        self.assertEqual(
            rows_of(2, [("ge", (3, 1, 5)), ("eq", (1, -2, 1)), ("eq", (1, 1, 1))], 0),
            [(("ge", (1, 0)), ("eq", (1, 0)))],
        )

    def test_positive_coefficients(self):
        # 2 x + (3 y + 4) = 0 in 3 x + y - 1 >= 0 is 2 (y - 1) - 3 (3 y + 4) >= 0
        self.assertEqual(
            rows_of(2, [("eq", (2, 3, 4)), ("ge", (3, 1, -1))], 0),
            [(("div", 2, (1, 0)), ("ge", (-1, -2)))],
        )

    def test_negative_coefficients(self):
        # -2 x + (3 y + 4) = 0 in 3 x + y - 1 >= 0 is 2 (y - 1) + 3 (3 y + 4) >= 0
        self.assertEqual(
            rows_of(2, [("eq", (-2, 3, 4)), ("ge", (3, 1, -1))], 0),
            [(("div", 2, (1, 0)), ("ge", (1, 0)))],
        )

    def test_divisors_are_multiplied(self):
        # 2 x + (y + 1) = 0 in 3 divides x + 5 is 6 divides 2 * 5 - (y + 1)
        self.assertEqual(
            rows_of(2, [("div", 3, (1, 0, 5)), ("eq", (2, 1, 1))], 0),
            [(("div", 2, (1, 1)), ("div", 6, (5, 3)))],
        )

    def test_the_last_variable(self):
        self.assertEqual(
            rows_of(3, [("eq", (1, 0, -1, 2)), ("ge", (0, 1, 1, 0))], 2), [(("ge", (1, 1, 2)),)]
        )

    def test_one_variable(self):
        self.assertEqual(rows_of(1, [("eq", (3, -6))], 0), [()])
        self.assertEqual(rows_of(1, [("eq", (3, -5))], 0), [(("ge", (-1,)),)])
        self.assertEqual(rows_of(1, [("eq", (1, -2)), ("ge", (-1, 1))], 0), [(("ge", (-1,)),)])

    def test_an_equation_without_the_variable_is_none(self):
        self.assertEqual(
            rows_of(2, [("eq", (0, 1, 1)), ("ge", (1, 1, 0))], 0), [(("eq", (1, 1)),)]
        )

    def test_lifting(self):
        system = System(2, [("eq", (2, 3, 4)), ("ge", (1, 0, 20))])
        for y in range(-8, 9, 2):
            self.assertEqual(lift(system, 0, 0, (y,)), ((-3 * y - 4) // 2, y))
        for y in (1, -3, 14):
            with self.assertRaises(InvalidPoint):
                lift(system, 0, 0, (y,))


class BoundsTest(unittest.TestCase):
    """Case 2 of point 45."""

    def test_lower_bounds_of_1(self):
        self.assertEqual(
            rows_of(
                3,
                [
                    ("ge", (1, 2, 0, 3)), ("ge", (0, 1, 0, 5)), ("ge", (-2, 0, 1, 1)),
                    ("ge", (1, 0, -1, 0)), ("div", 2, (0, 0, 1, 0)), ("ge", (-3, 1, 1, 7)),
                    ("eq", (0, 1, 1, 0)),
                ],
                0,
            ),
            [
                (
                    ("ge", (1, 0, 5)), ("div", 2, (0, 1, 0)), ("eq", (1, 1, 0)),
                    ("ge", (4, 1, 7)), ("ge", (7, 1, 16)), ("ge", (0, -1, 1)), ("ge", (1, -2, 7)),
                ),
            ],
        )

    def test_upper_bounds_of_1(self):
        # 2 x + y >= 0, -x + z + 1 >= 0, 3 x - 1 >= 0
        self.assertEqual(
            rows_of(3, [("ge", (2, 1, 0, 0)), ("ge", (-1, 0, 1, 1)), ("ge", (3, 0, 0, -1))], 0),
            [(("ge", (1, 2, 2)), ("ge", (0, 1, 0)))],
        )

    def test_no_bounds_or_bounds_on_one_side(self):
        for rows in ([], [("ge", (0, 1, 4))], [("ge", (5, 1, 4))], [("ge", (-5, 1, 4)), ("ge", (-2, 0, 0))]):
            expected = tuple([("ge", (1, 4)) for row in rows if row[1][0] == 0])
            self.assertEqual(rows_of(2, rows, 0), [expected])
        self.assertEqual(rows_of(1, [("ge", (7, 1)), ("ge", (3, 1))], 0), [()])

    def test_divisors_without_the_variable_do_not_matter(self):
        self.assertEqual(rows_of(2, [("div", 5, (0, 1, 0)), ("ge", (3, 1, 0))], 0), [(("div", 5, (1, 0)),)])
        # A coefficient that is a multiple of the divisor is not 0.
        self.assertEqual(len(rows_of(2, [("div", 5, (5, 1, 0)), ("ge", (3, 1, 0))], 0)), 15)

    def test_lifting(self):
        system = System(2, [("ge", (1, -2, 0)), ("ge", (-1, 2, 1))])
        self.assertEqual(lift(system, 0, 0, (4,)), (8, 4))
        # The greatest of the lower bounds, each rounded up.
        system = System(2, [("ge", (2, -1, 0)), ("ge", (3, -1, 1)), ("ge", (-1, 1, 9))])
        for y in range(-20, 20):
            expected = max(-(-y // 2), -((1 - y) // 3))
            if expected <= y + 9:
                self.assertEqual(lift(system, 0, 0, (y,)), (expected, y))
        # Without lower bounds the least of the upper ones, each rounded down.
        system = System(2, [("ge", (-2, 1, 0)), ("ge", (-3, 1, 1))])
        for y in range(-20, 20):
            self.assertEqual(lift(system, 0, 0, (y,)), (min(y // 2, (y + 1) // 3), y))
        # Without bounds 0.
        system = System(2, [("eq", (0, 1, -3))])
        self.assertEqual(lift(system, 0, 0, (3,)), (0, 3))
        with self.assertRaises(InvalidPoint):
            lift(system, 0, 0, (4,))


class DivisorsAloneTest(unittest.TestCase):
    """Case 3 of point 45."""

    def test_all_remainders(self):
        rows = [("div", 2, (1, 1, 0)), ("ge", (0, 1, 7)), ("div", 3, (2, 0, 1))]
        # 2 divides y + r, y + 7 >= 0, 3 divides 2 r + 1, which holds for r = 1 and r = 4
        bad = (("ge", (0, -1)),)
        self.assertEqual(
            rows_of(2, rows, 0),
            [
                bad, (("div", 2, (1, 1)), ("ge", (1, 7))), bad, bad,
                (("div", 2, (1, 0)), ("ge", (1, 7))), bad,
            ],
        )

    def test_one_variable(self):
        self.assertEqual(rows_of(1, [("div", 3, (1, 1))], 0), [(("ge", (-1,)),), (("ge", (-1,)),), ()])
        self.assertEqual(rows_of(1, [("div", 1, (1, 1))], 0), [()])

    def test_lifting(self):
        system = System(2, [("div", 4, (1, 1, 0)), ("div", 6, (0, 1, 1))])
        self.assertEqual(case_count(system, 0), 4)
        self.assertEqual(lift(system, 0, 3, (5,)), (3, 5))
        for index in (0, 1, 2):
            with self.assertRaises(InvalidPoint):
                lift(system, 0, index, (5,))


class LowerBoundsTest(unittest.TestCase):
    """Case 4 of point 45."""

    def test_each_bound_with_its_remainders(self):
        # 2 x + y >= 0 and -3 x + 7 >= 0: the sum of all a, 2, is less than that of all b, 3.
        # 2 x + (y - r) = 0: 2 divides y - r, -3 x + 7 is 2 * 7 + 3 (y - r)
        self.assertEqual(
            rows_of(2, [("ge", (2, 1, 0)), ("ge", (-3, 0, 7))], 0),
            [(("div", 2, (1, 0)), ("ge", (1, 4))), (("div", 2, (1, 1)), ("ge", (1, 3)))],
        )

    def test_several_bounds_in_order(self):
        # The a are 2 and 1, the b are 3 and 2.
        system = System(2, [("ge", (2, 1, 0)), ("ge", (-3, 0, 7)), ("ge", (1, 0, 0)), ("ge", (-2, 0, 9))])
        found = cases(system, 0)
        self.assertEqual(len(found), 3)
        # x = 0: y >= 0 (the others hold)
        self.assertEqual(found[2].rows, (("ge", (1, 0)),))
        self.assertEqual(found[0].rows[0], ("div", 2, (1, 0)))
        self.assertEqual(found[1].rows[0], ("div", 2, (1, 1)))

    def test_equal_sums(self):
        rows = [("ge", (2, 1, 0)), ("ge", (-2, 1, 5))]
        # The lower bounds are taken: 2 x + (y - r) = 0, so 2 (y + 5) + 2 (y - r) >= 0.
        self.assertEqual(
            rows_of(2, rows, 0),
            [(("div", 2, (1, 0)), ("ge", (1, 2))), (("div", 2, (1, 1)), ("ge", (1, 2)))],
        )

    def test_no_upper_bounds(self):
        # 3 divides x + y, x >= 5: x + (-5 - r) = 0 for r from 0 to 2
        self.assertEqual(
            rows_of(2, [("div", 3, (1, 1, 0)), ("ge", (1, 0, -5))], 0),
            [(("div", 3, (1, 2)),), (("div", 3, (1, 0)),), (("div", 3, (1, 1)),)],
        )
        self.assertEqual(case_count(System(1, [("div", 3, (1, 0)), ("ge", (9, 1))]), 0), 27)

    def test_lifting(self):
        system = System(2, [("div", 3, (1, 1, 0)), ("ge", (1, 0, -5))])
        self.assertEqual(lift(system, 0, 0, (1,)), (5, 1))
        self.assertEqual(lift(system, 0, 1, (0,)), (6, 0))
        self.assertEqual(lift(system, 0, 2, (2,)), (7, 2))
        with self.assertRaises(InvalidPoint):
            lift(system, 0, 1, (1,))
        system = System(2, [("ge", (2, 1, 0)), ("ge", (-3, 0, 7))])
        self.assertEqual(lift(system, 0, 0, (4,)), (-2, 4))
        self.assertEqual(lift(system, 0, 1, (3,)), (-1, 3))


class UpperBoundsTest(unittest.TestCase):
    """Case 5 of point 45."""

    def test_each_bound_with_its_remainders(self):
        # 3 x + y >= 0 and -2 x + 7 >= 0: -2 x + (7 - r) = 0; 3 x + y is 2 y + 3 (7 - r)
        self.assertEqual(
            rows_of(2, [("ge", (3, 1, 0)), ("ge", (-2, 0, 7))], 0),
            [(("ge", (0, -1)),), (("ge", (1, 9)),)],
        )

    def test_no_lower_bounds(self):
        # 2 divides x + y, -x + 4 >= 0: -x + (4 - r) = 0 for r of 0 and 1
        self.assertEqual(
            rows_of(2, [("div", 2, (1, 1, 0)), ("ge", (-1, 0, 4))], 0),
            [(("div", 2, (1, 0)),), (("div", 2, (1, 1)),)],
        )

    def test_several_bounds_in_order(self):
        # The a are 2 and 3, the b are 1 and 2: r is 0; then 0 and 1.
        system = System(
            2, [("ge", (2, 0, 9)), ("ge", (-1, 1, 0)), ("ge", (3, 0, 9)), ("ge", (-2, 0, 9))]
        )
        found = cases(system, 0)
        self.assertEqual(len(found), 3)
        # x = y: 2 y + 9 >= 0, 3 y + 9 >= 0, -2 y + 9 >= 0
        self.assertEqual(found[0].rows, (("ge", (1, 3)), ("ge", (-1, 4))))
        self.assertEqual(found[1].rows, (("ge", (0, -1)),))
        # -2 x + 8 = 0: -4 + y >= 0
        self.assertEqual(found[2].rows, (("ge", (1, -4)),))

    def test_lifting(self):
        system = System(2, [("ge", (3, 1, 0)), ("ge", (-2, 0, 7))])
        self.assertEqual(lift(system, 0, 1, (-9,)), (3, -9))
        for index, point in ((0, (-9,)), (1, (-10,))):
            with self.assertRaises(InvalidPoint):
                lift(system, 0, index, point)


class CountTest(unittest.TestCase):
    def test_counts_of_what_could_not_be_made(self):
        great = 10 ** 9
        system = System(2, [("ge", (great, 1, 0)), ("ge", (-great - 1, 0, 7)), ("div", great, (1, 0, 0))])
        self.assertEqual(case_count(system, 0), great * great)
        self.assertEqual(case_count(System(1, [("div", great, (1, 0)), ("div", great + 1, (1, 0))]), 0), great * (great + 1))
        self.assertEqual(case_count(system, 1), 1)

    def test_lifting_makes_one_case_alone(self):
        great = 10 ** 9
        system = System(2, [("ge", (great, 1, 0)), ("ge", (-great - 1, 0, 7)), ("div", great, (1, 0, 0))])
        self.assertEqual(lift(system, 0, 5, (5,)), (0, 5))
        self.assertEqual(lift(system, 0, 5, (great ** 2 + 5,)), (-great, great ** 2 + 5))

    def test_least_common_multiples(self):
        rows = [("div", 4, (1, 0)), ("div", 6, (5, 1)), ("div", 1, (1, 1))]
        self.assertEqual(case_count(System(1, rows), 0), 12)
        self.assertEqual(case_count(System(1, rows + [("ge", (1, 0))]), 0), 12)
        self.assertEqual(case_count(System(1, rows + [("ge", (3, 0)), ("ge", (-2, 1))]), 0), 24)
        self.assertEqual(case_count(System(2, [("div", 7, (0, 1, 0)), ("div", 3, (3, 0, 0))]), 0), 3)


class WrongPointsTest(unittest.TestCase):
    def test_they_raise(self):
        system = System(2, [("ge", (2, 1, 0)), ("ge", (-3, 0, 7))])
        for point in ((), (1, 2), (-20,), (1,)):
            with self.assertRaises(InvalidPoint):
                lift(system, 0, 0, point)
        for index in (2, 3, 100, -1, -2):
            for value in range(-6, 7):
                with self.assertRaises(InvalidPoint):
                    lift(system, 0, index, (value,))

    def test_an_impossible_case(self):
        with self.assertRaises(InvalidPoint):
            lift(System(1, [("eq", (2, 1))]), 0, 0, ())
        self.assertEqual(lift(System(1, [("eq", (2, 4))]), 0, 0, ()), (-2,))


def rule_by_words(system, k):
    """Which of the five cases of point 45 it is."""
    having = [row for row in system.rows if row[-1][k] != 0]
    kinds = [row[0] for row in having]
    lowers = [row[1][k] for row in having if row[0] == "ge" and row[1][k] > 0]
    uppers = [-row[1][k] for row in having if row[0] == "ge" and row[1][k] < 0]
    period = lcm(1, *[row[1] for row in having if row[0] == "div"])
    if "eq" in kinds:
        return 1, 1
    if "div" not in kinds and (set(lowers) <= {1} or set(uppers) <= {1}):
        return 2, 1
    if not lowers and not uppers:
        return 3, period
    if not uppers or (lowers and sum(lowers) <= sum(uppers)):
        return 4, sum(lowers) * period
    return 5, sum(uppers) * period


class AllPointsTest(unittest.TestCase):
    """Point 46, by going through all points of a box."""

    def test_small_systems(self):
        chance = random.Random(46)
        rules = []
        lifted = 0
        while len(rules) < 700:
            kinds = chance.choice([("ge",), ("ge", "ge", "ge", "div"), ("ge", "eq", "div"), ("div",)])
            system = random_system(chance, chance.randint(1, 3), chance.randint(1, 5), 3, kinds)
            k = chance.randrange(system.variables)
            if case_count(system, k) > 60:
                continue
            rule, count = rule_by_words(system, k)
            rules.append(rule)
            self.assertEqual(case_count(system, k), count)
            lifted += self.check(system, k, count)
        for rule in range(1, 6):
            self.assertGreater(rules.count(rule), 15, rule)
        self.assertGreater(lifted, 3000)

    def check(self, system, k, count):
        found = cases(system, k)
        self.assertIsInstance(found, tuple)
        self.assertEqual(len(found), count)
        lifted = 0
        reached = {}
        for index, case in enumerate(found):
            self.assertEqual(case.variables, system.variables - 1)
            self.assertTrue(case.reduced() == case)
            for point in box(case.variables, 4):
                if point in case:
                    whole = lift(system, k, index, point)
                    self.assertEqual(whole[:k] + whole[k + 1:], point)
                    self.assertIn(whole, system)
                    reached[point] = True
                    lifted += 1
                else:
                    with self.assertRaises(InvalidPoint):
                        lift(system, k, index, point)
        for point in box(system.variables - 1, 4):
            there = any(point[:k] + (x,) + point[k:] in system for x in range(-40, 41))
            if there:
                self.assertIn(point, reached)
        return lifted

    def test_all_variables_one_after_the_other(self):
        """A system has a point exactly if something is left when all variables are eliminated."""
        chance = random.Random(47)
        outcomes = []
        for _ in range(150):
            system = random_system(chance, 2, 3, 2)
            bounds = [("ge", (1, 0, 3)), ("ge", (-1, 0, 3)), ("ge", (0, 1, 3)), ("ge", (0, -1, 3))]
            system = System(2, list(system.rows) + bounds)
            left = [last for case in cases(system, 1) for last in cases(case, 0)]
            expected = len(points_in_box(system, 3)) > 0
            self.assertIs(any(() in last for last in left), expected)
            outcomes.append(expected)
        self.assertGreater(outcomes.count(True), 20)
        self.assertGreater(outcomes.count(False), 20)


if __name__ == "__main__":
    unittest.main()
