"""Points 47 to 49: steps, refutations, and their limits."""

import random
import unittest

from loopworks.elimination import cases
from loopworks.errors import StepFails, TooGreat, TooMany
from loopworks.steps import apply_step, refutes, remaining
from loopworks.systems import System
from tests.random_systems import points_in_box, random_expression, random_system

GREAT = 10 ** 18
WRONG = System(1, [("ge", (0, -1))])
# No x has x >= 1 and x <= 0.
EMPTY = System(1, [("ge", (1, -1)), ("ge", (-1, 0))])
OPEN = System(2, [("ge", (1, 2, 3)), ("eq", (0, 1, -1)), ("div", 2, (1, 0, 0))])


class StepsTest(unittest.TestCase):
    def check_fails(self, system, *steps):
        for step in steps:
            with self.subTest(step):
                with self.assertRaises(StepFails) as caught:
                    apply_step(system, step)
                self.assertEqual(caught.exception.index, 0)


class CloseTest(StepsTest):
    def test_impossible_systems(self):
        for variables in (0, 1, 3):
            row = ("ge", (0,) * variables + (-1,))
            self.assertEqual(apply_step(System(variables, [row]), ("close",)), ())
        for rows in ([("eq", (2, 1))], [("div", 4, (2, 1))], [("ge", (1, 0)), ("eq", (0, 7))]):
            self.assertEqual(apply_step(System(1, rows), ("close",)), ())

    def test_no_variables(self):
        for row in (("ge", (-5,)), ("eq", (1,)), ("div", 3, (4,))):
            self.assertEqual(apply_step(System(0, [("ge", (0,)), row, ("ge", (1,))]), ("close",)), ())

    def test_other_systems(self):
        self.check_fails(EMPTY, ("close",))
        self.check_fails(OPEN, ("close",))
        self.check_fails(System(0, []), ("close",))
        self.check_fails(System(0, [("ge", (0,)), ("eq", (0,)), ("div", 2, (4,))]), ("close",))
        self.check_fails(System(1, [("eq", (1, 0)), ("eq", (1, 1))]), ("close",))

    def test_other_forms(self):
        self.check_fails(WRONG, "close", ["close"], ("close", 0), ("close", ()), ("Close",), ("close", None))


class AddTest(StepsTest):
    def test_sums(self):
        # 2 (x + 2 y + 3) - 3 (y - 1) = 2 x + y + 9
        made = apply_step(OPEN, ("add", (2, -3), 1))
        self.assertEqual([system.rows for system in made], [(("ge", (2, 1, 9)),) + OPEN.rows])
        self.assertEqual(made[0].variables, 2)
        self.assertEqual(apply_step(OPEN, ("add", (1, -2, 0), 1))[0].rows[0], ("ge", (1, 0, 5)))
        self.assertEqual(apply_step(OPEN, ("add", (0, 4), 1))[0].rows[0], ("ge", (0, 4, -4)))
        self.assertEqual(apply_step(OPEN, ("add", (0, -4), 4))[0].rows[0], ("ge", (0, -1, 1)))
        self.assertEqual(apply_step(EMPTY, ("add", (1, 1), 1))[0].rows[0], ("ge", (0, -1)))

    def test_missing_multipliers(self):
        self.assertEqual(apply_step(OPEN, ("add", (), 1))[0].rows[0], ("ge", (0, 0, 0)))
        self.assertEqual(apply_step(OPEN, ("add", (5,), 1))[0].rows[0], ("ge", (5, 10, 15)))
        self.assertEqual(apply_step(OPEN, ("add", (0, 0, 0), 7))[0].rows[0], ("ge", (0, 0, 0)))
        self.assertEqual(apply_step(System(0, []), ("add", (), 3))[0].rows, (("ge", (0,)),))

    def test_divisors(self):
        system = System(2, [("ge", (2, 4, 7)), ("ge", (2, 0, -7)), ("eq", (3, 3, 1))])
        self.assertEqual(apply_step(system, ("add", (1,), 2))[0].rows[0], ("ge", (1, 2, 3)))
        self.assertEqual(apply_step(system, ("add", (0, 1), 2))[0].rows[0], ("ge", (1, 0, -4)))
        self.assertEqual(apply_step(system, ("add", (3, 0, 2), 6))[0].rows[0], ("ge", (2, 3, 3)))
        self.assertEqual(apply_step(system, ("add", (), 10 ** 30))[0].rows[0], ("ge", (0, 0, 0)))
        self.check_fails(
            system, ("add", (1,), 3), ("add", (1,), 4), ("add", (3, 0, 2), 5), ("add", (1, 1), 8),
        )

    def test_multipliers_that_may_not_be(self):
        self.check_fails(
            OPEN, ("add", (-1,), 1), ("add", (1, 1, 1), 1), ("add", (0, 0, -1), 1),
            ("add", (0, 0, 2), 2), ("add", (0, 0, 0, 0), 1), ("add", (1, 1, 0, 1), 1),
            ("add", ("1",), 1), ("add", (None,), 1), ("add", ((1,),), 1), ("add", (True,), 1),
        )
        self.check_fails(EMPTY, ("add", (1, -1), 1), ("add", (1, 1, 1), 1))

    def test_divisors_that_may_not_be(self):
        self.check_fails(
            OPEN, ("add", (1,), 0), ("add", (1,), -1), ("add", (), 0), ("add", (1,), None),
            ("add", (1,), "1"), ("add", (1,), (1,)), ("add", (1,), True),
        )

    def test_other_forms(self):
        self.check_fails(
            OPEN, ("add",), ("add", (1,)), ("add", 1, (1,)), ("add", [1], 1), ("add", (1,), 1, 1),
            ("add", 1, 1), ["add", (1,), 1], ("ADD", (1,), 1), ("add", {}, 1), ("add", "", 1),
        )


class SplitTest(StepsTest):
    def test_two_systems(self):
        made = apply_step(OPEN, ("split", (1, -1, 4)))
        self.assertEqual(
            [system.rows for system in made],
            [(("ge", (1, -1, 4)),) + OPEN.rows, (("ge", (-1, 1, -5)),) + OPEN.rows],
        )
        self.assertEqual([system.variables for system in made], [2, 2])
        self.assertEqual(
            [system.rows for system in apply_step(System(0, []), ("split", (0,)))],
            [(("ge", (0,)),), (("ge", (-1,)),)],
        )

    def test_expressions_that_may_not_be(self):
        self.check_fails(
            OPEN, ("split", (1, 2)), ("split", (1, 2, 3, 4)), ("split", ()), ("split", [1, 2, 3]),
            ("split", (1, 2, "3")), ("split", (1, None, 3)), ("split", 1), ("split", None),
            ("split", (1, True, 3)),
        )

    def test_other_forms(self):
        self.check_fails(OPEN, ("split",), ("split", (1, 2, 3), 1), ["split", (1, 2, 3)], ("Split", (1, 2, 3)))


class CasesTest(StepsTest):
    def test_all_cases(self):
        for k in (0, 1):
            made = apply_step(OPEN, ("cases", k))
            self.assertEqual([system.rows for system in made], [case.rows for case in cases(OPEN, k)])
            self.assertTrue(all(system.variables == 1 for system in made))
        self.assertEqual([s.rows for s in apply_step(EMPTY, ("cases", 0))], [(("ge", (-1,)),)])

    def test_variables_that_are_none(self):
        self.check_fails(
            OPEN, ("cases", 2), ("cases", -1), ("cases", -2), ("cases", 100), ("cases", None),
            ("cases", "0"), ("cases", (0,)), ("cases", False),
        )
        self.check_fails(System(0, []), ("cases", 0))
        self.check_fails(System(0, [("ge", (-1,))]), ("cases", 0))

    def test_other_forms(self):
        self.check_fails(OPEN, ("cases",), ("cases", 0, 0), ["cases", 0], ("case", 0), "cases")


class OtherFormsTest(StepsTest):
    def test_they_cannot_be_taken(self):
        self.check_fails(
            WRONG, (), [], None, 0, 1, "", "c", "close", ("",), ("choose", 0), ("quotient", (1, 2), 1),
            ("eliminate", 0, (), 0), (None,), (0,), ((),), (("close",),), {}, ("close", "close"), (True,),
        )

    def test_the_system_stays(self):
        rows = OPEN.rows
        for step in (("add", (1, 1), 1), ("split", (1, 1, 1)), ("cases", 0)):
            apply_step(OPEN, step)
            self.assertEqual((OPEN.rows, OPEN.variables), (rows, 2))


class RemainingTest(unittest.TestCase):
    def test_no_steps(self):
        self.assertEqual(remaining(OPEN, ()), (OPEN,))
        self.assertIs(refutes(OPEN, ()), False)
        self.assertIs(refutes(WRONG, ()), False)

    def test_steps_one_after_the_other(self):
        self.assertEqual(remaining(EMPTY, (("add", (1, 1), 1), ("close",))), ())
        self.assertIs(refutes(EMPTY, (("add", (1, 1), 1), ("close",))), True)
        self.assertIs(refutes(EMPTY, (("cases", 0), ("close",))), True)
        self.assertIs(refutes(WRONG, (("close",),)), True)

    def test_the_first_one_is_replaced_ahead_of_the_others(self):
        left = remaining(System(1, []), (("split", (1, 0)), ("split", (1, 5)), ("split", (1, 9))))
        self.assertEqual(
            [system.rows for system in left],
            [
                (("ge", (1, 9)), ("ge", (1, 5)), ("ge", (1, 0))),
                (("ge", (-1, -10)), ("ge", (1, 5)), ("ge", (1, 0))),
                (("ge", (-1, -6)), ("ge", (1, 0))),
                (("ge", (-1, -1)),),
            ],
        )

    def test_systems_that_are_left(self):
        steps = (("split", (1, 0)), ("add", (1, 1), 1))
        self.assertEqual(
            [system.rows for system in remaining(EMPTY, steps)],
            [
                (("ge", (2, -1)), ("ge", (1, 0))) + EMPTY.rows,
                (("ge", (-1, -1)),) + EMPTY.rows,
            ],
        )
        self.assertIs(refutes(EMPTY, steps), False)

    def test_a_whole_refutation(self):
        # No x has 1 <= 3 x <= 2.
        system = System(1, [("ge", (3, -1)), ("ge", (-3, 2))])
        steps = (
            ("split", (1, -1)), ("add", (3, 0, 1), 1), ("close",), ("add", (3, 1), 1), ("close",),
        )
        self.assertEqual(remaining(system, steps), ())
        self.assertIs(refutes(system, steps), True)
        self.assertIs(refutes(system, steps[:-1]), False)
        self.assertIs(refutes(system, (("add", (1,), 3), ("add", (0, 0, 1), 3), ("add", (1, 1), 1), ("close",))), True)
        self.assertIs(refutes(system, (("cases", 0), ("close",), ("close",), ("close",))), True)

    def test_the_index_of_the_step_that_fails(self):
        good = ("add", (), 1)
        for count in range(5):
            with self.assertRaises(StepFails) as caught:
                remaining(EMPTY, (good,) * count + (("close",),) + (good,))
            self.assertEqual(caught.exception.index, count)
            self.assertIs(refutes(EMPTY, (good,) * count + (("close",),)), False)

    def test_a_step_behind_the_last_system(self):
        for step in (("close",), ("split", (1, 1)), ("add", (), 1), ("cases", 0), None):
            with self.assertRaises(StepFails) as caught:
                remaining(WRONG, (("close",), step))
            self.assertEqual(caught.exception.index, 1)
            self.assertIs(refutes(WRONG, (("close",), step)), False)

    def test_what_is_refuted_has_no_point(self):
        chance = random.Random(48)
        counts = {True: 0, False: 0}
        while counts[True] < 60 or counts[False] < 60:
            system = random_system(chance, 2, chance.randint(2, 5), 2)
            steps = []
            try:
                left = remaining(system, ())
                while left and len(steps) < 60:
                    step = ("close",) if left[0].reduced().is_impossible else ("cases", 0)
                    if step == ("cases", 0) and left[0].variables == 0:
                        break
                    steps.append(step)
                    left = remaining(system, tuple(steps))
            except TooMany:
                continue
            if refutes(system, tuple(steps)):
                self.assertEqual(points_in_box(system, 12), [])
            counts[len(left) == 0] += 1
            self.assertIs(refutes(system, tuple(steps)), len(left) == 0)

    def test_each_step_keeps_the_points(self):
        chance = random.Random(49)
        taken = []
        while len(taken) < 400:
            system = random_system(chance, 2, chance.randint(1, 4), 3)
            multipliers = tuple([chance.randint(-1, 2) for _ in system.rows])
            step = chance.choice([
                ("add", multipliers, chance.randint(1, 3)), ("split", random_expression(chance, 2, 3)),
            ])
            try:
                made = apply_step(system, step)
            except StepFails:
                continue
            taken.append(step[0])
            points = sorted([point for other in made for point in points_in_box(other, 4)])
            self.assertEqual(points, points_in_box(system, 4))
        self.assertGreater(taken.count("add"), 40)


def many(count, variables=1):
    """A system with so many constraints that have the first variable not at all."""
    return System(variables, [("ge", (0,) * variables + (k,)) for k in range(count)])


class CaseLimitsTest(unittest.TestCase):
    """Point 49: ahead of making the systems."""

    def test_the_number_of_cases(self):
        for count, raises in ((199, False), (200, False), (201, True), (10 ** 12, True)):
            for rows in ([("div", count, (1, 0))], [("div", count, (1, 0)), ("ge", (1, 0))]):
                system = System(1, rows)
                if raises:
                    with self.assertRaises(TooMany):
                        apply_step(system, ("cases", 0))
                else:
                    self.assertEqual(len(apply_step(system, ("cases", 0))), count)

    def test_bounds_with_many_cases(self):
        for a, b, raises in ((200, 201, False), (201, 200, False), (201, 201, True), (201, 202, True)):
            system = System(1, [("ge", (a, 0)), ("ge", (-b, 0))])
            if raises:
                with self.assertRaises(TooMany):
                    apply_step(system, ("cases", 0))
            else:
                self.assertEqual(len(apply_step(system, ("cases", 0))), 200)

    def bounds(self, lowers, uppers, others):
        """A system that becomes one of lowers * uppers + others constraints, which are reduced."""
        rows = [("ge", (1, k)) for k in range(lowers)] + [("ge", (-1, k)) for k in range(uppers)]
        return System(1, rows + [("ge", (0, k)) for k in range(others)])

    def test_the_constraints_of_a_case_ahead_of_reducing(self):
        self.assertEqual([s.rows for s in apply_step(self.bounds(50, 80, 0), ("cases", 0))], [()])
        self.assertEqual([s.rows for s in apply_step(self.bounds(50, 79, 50), ("cases", 0))], [()])
        for lowers, uppers, others in ((50, 79, 51), (50, 80, 1), (4001, 1, 0), (1, 1, 4000), (0, 0, 4001)):
            with self.assertRaises(TooMany):
                apply_step(self.bounds(lowers, uppers, others), ("cases", 0))
        self.assertEqual(len(apply_step(self.bounds(4000, 1, 0), ("cases", 0))), 1)
        self.assertEqual(len(apply_step(self.bounds(9000, 0, 4000), ("cases", 0))), 1)

    def test_by_the_other_cases_there_is_no_such_limit(self):
        rows = [("eq", (1, 0))] + [("ge", (0, k)) for k in range(5000)]
        self.assertEqual([s.rows for s in apply_step(System(1, rows), ("cases", 0))], [()])
        rows = [("div", 2, (1, 0))] + [("ge", (0, k)) for k in range(5000)]
        self.assertEqual(len(apply_step(System(1, rows), ("cases", 0))), 2)

    def test_ahead_of_other_steps(self):
        system = System(1, [("div", 201, (1, 0))])
        with self.assertRaises(TooMany):
            remaining(system, (("cases", 0), ("close",)))
        with self.assertRaises(TooMany):
            refutes(system, (("cases", 0),))
        with self.assertRaises(StepFails):
            remaining(system, (("close",), ("cases", 0)))
        with self.assertRaises(StepFails):
            apply_step(system, ("cases", 1))
        self.assertIs(refutes(system, (("close",), ("cases", 0))), False)

    def test_only_the_step_cases(self):
        system = System(1, [("div", 201, (1, 0))])
        self.assertEqual(len(apply_step(system, ("split", (1, 0)))), 2)


class WeightLimitsTest(unittest.TestCase):
    """Point 49: the systems that are left."""

    def test_the_weight_of_one_system(self):
        self.assertEqual(apply_step(many(3998), ("add", (), 1))[0].weight, 4000)
        with self.assertRaises(TooMany):
            apply_step(many(3999), ("add", (), 1))
        with self.assertRaises(TooMany):
            refutes(many(3999), (("add", (), 1),))

    def test_the_weight_of_two_systems(self):
        self.assertEqual([s.weight for s in apply_step(many(1998), ("split", (1, 0)))], [2000, 2000])
        with self.assertRaises(TooMany):
            apply_step(many(1999), ("split", (1, 0)))

    def test_the_weight_of_all_that_are_left(self):
        steps = (("split", (1, 0)), ("split", (1, 1)), ("split", (1, 2)))
        left = remaining(many(996), steps)
        self.assertEqual([system.weight for system in left], [1000, 1000, 999, 998])
        self.assertEqual(len(remaining(many(997), steps[:2])), 3)
        with self.assertRaises(TooMany):
            remaining(many(997), steps)
        with self.assertRaises(TooMany):
            refutes(many(997), steps)

    def test_closing_makes_it_less(self):
        rows = list(many(3990).rows) + [("eq", (0, 1))]
        self.assertEqual(apply_step(System(1, rows + rows), ("close",)), ())
        self.assertIs(refutes(System(1, rows * 2), (("close",),)), True)

    def test_the_given_system_is_not_looked_at(self):
        self.assertEqual(remaining(many(9000), ()), (many(9000),))
        self.assertIs(refutes(many(9000), ()), False)

    def test_the_number_of_variables(self):
        self.assertEqual(len(apply_step(many(1, 40), ("add", (), 1))), 1)
        with self.assertRaises(TooMany):
            apply_step(many(1, 41), ("add", (), 1))
        with self.assertRaises(TooMany):
            apply_step(many(1, 42), ("cases", 0))
        self.assertEqual(apply_step(many(1, 41), ("cases", 0))[0].variables, 40)
        self.assertEqual(apply_step(System(41, [("eq", (0,) * 41 + (1,))]), ("close",)), ())
        self.assertEqual(len(remaining(many(1, 50), ())), 1)

    def test_a_step_that_cannot_be_taken_comes_first(self):
        with self.assertRaises(StepFails):
            apply_step(many(5000), ("add", (-1,), 1))
        with self.assertRaises(StepFails):
            apply_step(many(5000, 50), ("split", (1,)))
        with self.assertRaises(StepFails):
            apply_step(many(5000, 50), ("close",))
        self.assertIs(refutes(many(5000, 50), (("close",),)), False)


class GreatNumbersTest(unittest.TestCase):
    """Point 49: the numbers of the systems that a step has made."""

    def check(self, system, step, raises):
        if raises:
            with self.assertRaises(TooGreat):
                apply_step(system, step)
            with self.assertRaises(TooGreat):
                remaining(system, (step,))
            with self.assertRaises(TooGreat):
                refutes(system, (step,))
        else:
            apply_step(system, step)

    def test_coefficients_constants_and_divisors(self):
        for number in (GREAT, -GREAT, GREAT + 1, -GREAT - 1, 10 ** 40):
            raises = abs(number) > GREAT
            for rows in (
                [("ge", (number, 0, 0))], [("eq", (0, number, 0))], [("ge", (0, 0, number))],
                [("ge", (1, 1, 1)), ("div", 2, (0, 0, number))], [("div", 3, (number, 1, 1))],
            ):
                self.check(System(2, rows), ("add", (), 1), raises)
                self.check(System(2, rows), ("split", (0, 0, 0)), raises)
            if number > 0:
                self.check(System(2, [("div", number, (0, 0, 0))]), ("add", (), 1), raises)

    def test_sums_and_splits(self):
        system = System(1, [("ge", (1, 1))])
        self.check(system, ("add", (GREAT,), 1), False)
        self.check(system, ("add", (GREAT + 1,), 1), True)
        self.check(system, ("add", (GREAT + 1,), GREAT + 1), False)
        self.check(system, ("split", (1, GREAT - 1)), False)
        self.check(system, ("split", (1, GREAT)), True)
        self.check(system, ("split", (1, -GREAT)), False)
        self.check(system, ("split", (1, -GREAT - 1)), True)

    def test_cases(self):
        great = 10 ** 10
        system = System(3, [("ge", (1, great, 0, 0)), ("ge", (-great, 0, 1, 0))])
        self.check(system, ("cases", 0), True)
        system = System(3, [("ge", (1, 10 ** 9, 0, 0)), ("ge", (-(10 ** 9), 0, 1, 0))])
        self.check(system, ("cases", 0), False)
        # What is made is reduced first.
        system = System(2, [("ge", (1, great, 0)), ("ge", (-great, 0, 5))])
        self.check(system, ("cases", 0), False)

    def test_systems_that_are_not_made_now_are_not_looked_at(self):
        system = System(1, [("ge", (0, -1)), ("ge", (GREAT + 1, 0))])
        self.assertEqual(apply_step(system, ("close",)), ())
        self.assertIs(refutes(system, (("close",),)), True)
        self.assertEqual(remaining(system, ()), (system,))

    def test_too_many_comes_first(self):
        rows = list(many(4000).rows) + [("ge", (0, GREAT + 1))]
        with self.assertRaises(TooMany):
            apply_step(System(1, rows), ("add", (), 1))
        with self.assertRaises(TooMany):
            apply_step(System(41, [("ge", (0,) * 41 + (GREAT + 1,))]), ("add", (), 1))
        with self.assertRaises(StepFails):
            apply_step(System(1, rows), ("add", (-1,), 1))

    def test_the_errors_of_earlier_steps_come_first(self):
        with self.assertRaises(TooGreat):
            remaining(System(1, []), (("split", (1, GREAT)), ("close",)))
        with self.assertRaises(StepFails):
            remaining(System(1, []), (("close",), ("split", (1, GREAT))))


if __name__ == "__main__":
    unittest.main()
