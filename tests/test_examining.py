"""Points 63 to 65: examining systems; whatever is returned is checked."""

import random
import unittest

from loopworks.examining import MOST_NUMBERS, Budget, examine, split_steps
from loopworks.steps import refutes
from loopworks.systems import System
from loopworks.tableaus import Tableau
from tests.random_systems import points_in_box, random_constraint, random_system

GREAT = 10 ** 18
EFFORTS = (1, 2, 20, 2000, 2001, 10 ** 9)


class ExaminingTest(unittest.TestCase):
    def check(self, system, **more):
        """What examine returns, which is checked; its kind."""
        before = (system.variables, system.rows)
        found = examine(system, **more)
        self.assertEqual(found, examine(System(*before), **more))
        self.assertEqual((system.variables, system.rows), before)
        self.assertIsInstance(found, tuple)
        kind, value = found
        if kind == "point":
            self.assertIsInstance(value, tuple)
            self.assertIn(value, system)
        elif kind == "refutation":
            self.assertIsInstance(value, tuple)
            self.assertIs(refutes(system, value), True)
        else:
            self.assertEqual(kind, "unknown")
            self.assertIn(value, ("effort", "limit"))
        return kind


class NeverGivenUpTest(ExaminingTest):
    """Point 65."""

    def test_no_variables(self):
        for number in (1, 7, GREAT + 1, 10 ** 40):
            for effort in EFFORTS:
                for rows in (
                    [("ge", (number,))], [("eq", (0,)), ("ge", (number,))], [("div", number, (0,))],
                    [("div", number, (-number * 3,))], [],
                ):
                    self.assertEqual(self.check(System(0, rows), effort=effort), "point")
                for rows in (
                    [("ge", (-number,))], [("eq", (number,))], [("ge", (number,)), ("eq", (-number,))],
                    [("div", number + 1, (number,))], [("ge", (number,)), ("ge", (-1,))],
                ):
                    self.assertEqual(self.check(System(0, rows), effort=effort), "refutation")

    def test_no_variables_and_many_rows(self):
        rows = [("div", 2 + k, (0,)) for k in range(400)] + [("ge", (k,)) for k in range(5000)]
        for effort in (1, 500):
            self.assertEqual(self.check(System(0, rows), effort=effort), "point")
            self.assertEqual(self.check(System(0, rows + [("div", 2, (1,))]), effort=effort), "refutation")

    def test_an_impossible_reduced_form(self):
        for number in (2, 14, 2 * GREAT, 10 ** 40):
            for effort in EFFORTS:
                for variables in (1, 3, 40, 41, 60):
                    zeros = (0,) * (variables - 1)
                    for row in (
                        ("ge", (0,) + zeros + (-number,)), ("eq", (0,) + zeros + (number,)),
                        ("eq", (number,) + zeros + (1,)), ("div", 2 * number, (number,) + zeros + (1,)),
                    ):
                        free = ("ge", (number,) * variables + (1,))
                        for rows in ([row], [free, row], [row, free], [free] * 5 + [row]):
                            self.assertEqual(self.check(System(variables, rows), effort=effort), "refutation")


class SmallSystemsTest(ExaminingTest):
    def test_points(self):
        for rows in (
            [], [("ge", (1, 0, -3))], [("eq", (2, -3, 1))], [("div", 5, (1, 2, 3))],
            [("eq", (1, 1, -7)), ("div", 4, (1, 0, 1)), ("ge", (1, 0, -10))],
            [("ge", (3, -1, 0)), ("ge", (-3, 1, 1)), ("div", 2, (1, 1, 1))],
            [("ge", (2, 0, -GREAT)), ("ge", (-2, 0, GREAT + 1))],
        ):
            self.assertEqual(self.check(System(2, rows)), "point")

    def test_refutations(self):
        for rows in (
            [("ge", (1, 0, -3)), ("ge", (-1, 0, 2))], [("ge", (3, 0, -1)), ("ge", (-3, 0, 2))],
            [("eq", (2, -4, 1))], [("eq", (1, -1, 0)), ("ge", (1, 0, -1)), ("ge", (0, -1, 0))],
            [("div", 2, (1, 1, 0)), ("div", 2, (1, 1, 1))],
            [("div", 2, (1, 0, 0)), ("div", 3, (1, 0, 0)), ("ge", (1, 0, -1)), ("ge", (-1, 0, 5))],
            [("ge", (7, -3, 0)), ("ge", (-7, 3, 0)), ("ge", (1, 0, -1)), ("ge", (-1, 0, 2))],
            [("ge", (2, 4, -1)), ("ge", (-2, -4, 1))],
            [("ge", (1, 0, -10 ** 30)), ("ge", (-1, 0, 10 ** 30 - 1))],
        ):
            self.assertEqual(self.check(System(2, rows)), "refutation")

    def test_few_rational_values_and_no_integer(self):
        # 4 <= 8 x - 5 y <= 4 and 1 <= x <= 2: y is (8 x - 4) / 5.
        rows = [("ge", (8, -5, -4)), ("ge", (-8, 5, 4)), ("ge", (1, 0, -1)), ("ge", (-1, 0, 2))]
        self.assertEqual(self.check(System(2, rows)), "refutation")
        rows[-1] = ("ge", (-1, 0, 3))
        self.assertEqual(self.check(System(2, rows)), "point")

    def test_an_effort_that_is_too_small(self):
        system = System(2, [("ge", (8, -5, -4)), ("ge", (-8, 5, 4)), ("ge", (1, 0, -1)), ("ge", (-1, 0, 2))])
        self.assertEqual(examine(system, effort=1), ("unknown", "effort"))
        self.assertEqual(examine(system, effort=2), ("unknown", "effort"))
        self.assertEqual(examine(system)[0], "refutation")

    def test_a_limit(self):
        # Behind each step but "close", a system with more than 40 variables would be left.
        rows = [("ge", (2,) * 42 + (-1,)), ("ge", (-2,) * 42 + (1,))]
        self.assertEqual(examine(System(42, rows)), ("unknown", "limit"))
        self.assertEqual(self.check(System(42, rows[:1])), "point")

    def test_greater_efforts_than_the_greatest(self):
        chance = random.Random(63)
        for _ in range(30):
            system = random_system(chance, 4, 6, 9)
            self.assertEqual(examine(system, effort=2000), examine(system, effort=10 ** 12))
            self.assertEqual(examine(system), examine(system, effort=500))


class BudgetTest(unittest.TestCase):
    """Point 63: the effort is the number of systems that may be looked at."""

    def test_the_number_of_looks(self):
        for effort, looks in ((1, 1), (7, 7), (1999, 1999), (2000, 2000), (2001, 2000), (10 ** 9, 2000)):
            budget = Budget(effort)
            self.assertEqual([budget.spend() for _ in range(looks + 2)], [True] * looks + [False] * 2)


class WaysToGoOnTest(ExaminingTest):
    def test_splits_beside_values_that_are_no_integers(self):
        # y is 3 and x is 5 / 2, or -5 / 2.
        for sign, constant in ((1, -3), (-1, 2)):
            rows = [(2, 0, -5 * sign), (-2, 0, 5 * sign), (0, 1, -3), (0, -1, 3)]
            tableau = Tableau(2, rows)
            self.assertIsNone(tableau.find_conflict())
            steps = split_steps(System(2, [("ge", row) for row in rows]), tableau)
            self.assertEqual(steps, [("split", (1, 0, constant))])

    def test_systems_with_too_many_numbers_to_be_solved(self):
        rows = [("ge", (1,) * 40 + (-k,)) for k in range(3000)]
        self.assertGreater(40 * len(rows), MOST_NUMBERS)
        self.assertEqual(self.check(System(40, rows)), "point")
        zeros = (0,) * 38
        rows += [("ge", (0, 2) + zeros + (-1,)), ("ge", (0, -2) + zeros + (1,))]
        self.assertEqual(self.check(System(40, rows)), "refutation")


class RandomSystemsTest(ExaminingTest):
    def test_against_a_box(self):
        chance = random.Random(64)
        kinds = []
        for _ in range(700):
            system = random_system(chance, chance.randint(1, 3), chance.randint(1, 7), chance.choice([1, 3, 6]))
            kind = self.check(system, effort=chance.choice(EFFORTS))
            if kind == "refutation":
                self.assertEqual(points_in_box(system, 5), [])
            kinds.append(kind)
        self.assertGreater(kinds.count("point"), 100)
        self.assertGreater(kinds.count("refutation"), 100)
        self.assertGreater(kinds.count("unknown"), 0)

    def test_small_systems_are_not_given_up(self):
        chance = random.Random(65)
        for _ in range(400):
            system = random_system(chance, 2, chance.randint(1, 5), 3)
            self.assertNotEqual(self.check(system), "unknown")

    def test_points_that_are_known(self):
        """Systems made around a point are never refuted."""
        chance = random.Random(66)
        kinds = []
        for _ in range(150):
            count = chance.randint(2, 6)
            point = [chance.randint(-20, 20) for _ in range(count)]
            rows = []
            for _ in range(chance.randint(2, 9)):
                row = random_constraint(chance, count, 5)
                value = sum([a * b for a, b in zip(row[-1], point)])
                more = 0 if row[0] != "ge" else chance.randint(0, 3)
                rows.append(row[:-1] + (row[-1][:-1] + (more - value,),))
            kinds.append(self.check(System(count, rows), effort=chance.choice(EFFORTS)))
        self.assertNotIn("refutation", kinds)
        self.assertGreater(kinds.count("point"), 100)

    def test_great_numbers(self):
        chance = random.Random(67)
        for _ in range(150):
            most = chance.choice([10 ** 6, 10 ** 12, GREAT, 10 ** 30])
            system = random_system(chance, chance.randint(1, 3), chance.randint(1, 5), most)
            self.check(system, effort=chance.choice((1, 2, 20, 200)))

    def test_many_rows(self):
        rows = [("ge", (1, k, -k * k)) for k in range(600)]
        self.assertEqual(self.check(System(2, rows)), "point")
        rows += [("ge", (-1, -k, k * k - 90000)) for k in range(600)]
        self.assertEqual(self.check(System(2, rows)), "refutation")
        self.check(System(1, [("div", 2 + k, (1, 1)) for k in range(400)]))
        self.check(System(40, [("ge", (1,) * 40 + (k,)) for k in range(3000)]))


if __name__ == "__main__":
    unittest.main()
