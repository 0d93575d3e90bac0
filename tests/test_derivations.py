"""Points 58 to 62: derivations, the steps that they take, their limits, and what they show."""

import random
import unittest
from types import SimpleNamespace

from loopworks.asks import asks_of, clauses_hold
from loopworks.derivations import accepts, apply_ask_step, failures, settles, start_of
from loopworks.elimination import cases
from loopworks.errors import BadFolding, StepFails, TooGreat, TooMany
from loopworks.expressions import holds
from loopworks.programs import Program
from loopworks.schedules import Schedule
from loopworks.systems import System
from tests.random_systems import box, random_constraint, random_expression, random_system

GREAT = 10 ** 18
CLOSE = ("close", (("close",),))


def ask(variables, clauses=(), hidden=()):
    """What steps are taken for, as asks_of might make it."""
    return SimpleNamespace(variables=variables, clauses=clauses, hidden=hidden)


def rows_of(systems):
    return [system.rows for system in systems]


# x, y; one clause with two alternatives, one with a divisor, one without alternatives. The entry
# with the number 0 has one further variable v, that with the number 1 two, that with 2 none.
LOW = ("ge", (1, 0, -3))
HIGH = ("ge", (-1, 2, 9))
ODD = ("div", 3, (1, 1, 1))
SMALL = ask(
    2,
    (((LOW, HIGH), (("eq", (0, 1, 0)),)), ((ODD,),), ()),
    (
        (1, (((("ge", (1, 0, 2, -5)), ("ge", (0, 1, -3, 4))),), ((("eq", (1, 1, -1, 0)),), (("div", 4, (0, 0, 1, 1)),)))),
        (2, (((("ge", (0, 0, 1, -1, 0)), ("div", 2, (1, 0, 0, 3, 0))),),)),
        (0, ()),
    ),
)
START = System(2, [("ge", (1, 1, 1))])


class FailuresTest(unittest.TestCase):
    def test_each_kind(self):
        self.assertEqual(failures(("ge", (2, -3, 4))), [("ge", (-2, 3, -5))])
        self.assertEqual(failures(("eq", (2, -3, 4))), [("ge", (2, -3, 3)), ("ge", (-2, 3, -5))])
        self.assertEqual(
            failures(("div", 4, (1, 5))), [("div", 4, (1, 4)), ("div", 4, (1, 3)), ("div", 4, (1, 2))]
        )
        self.assertEqual(failures(("div", 2, (3,))), [("div", 2, (2,))])
        self.assertEqual(failures(("div", 1, (1, 5))), [])
        self.assertEqual(failures(("ge", (0,))), [("ge", (-1,))])

    def test_one_holds_exactly_where_the_constraint_does_not(self):
        chance = random.Random(59)
        for _ in range(300):
            constraint = random_constraint(chance, 2)
            for point in box(2, 3):
                held = [holds(failure, point) for failure in failures(constraint)]
                self.assertEqual(held.count(True), 0 if holds(constraint, point) else 1)

    def test_a_new_list_each_time(self):
        constraint = ("div", 3, (1, 0))
        failures(constraint).append(1)
        self.assertEqual(len(failures(constraint)), 2)


class StartTest(unittest.TestCase):
    def test_the_variables_of_the_ask(self):
        program = Program.parse("params n; array a[]; for i = 0 to n { a[i] = f(a[i]); }")
        for found in asks_of(program, Schedule.parse("rows seq, par; f: i, 0;", program)):
            self.assertEqual(start_of(found), System(found.variables, []))
        self.assertEqual(start_of(ask(0)), System(0, []))


class StepsTest(unittest.TestCase):
    def check_fails(self, found, system, *steps):
        for step in steps:
            with self.subTest(step):
                with self.assertRaises(StepFails) as caught:
                    apply_ask_step(found, system, step)
                self.assertEqual(caught.exception.index, 0)
                self.assertIs(settles(found, (step,)), False)


class CloseTest(StepsTest):
    def test_what_is_refuted_goes(self):
        wrong = System(2, [("ge", (0, 1, 0)), ("ge", (0, -1, -1))])
        self.assertEqual(apply_ask_step(SMALL, wrong, ("close", (("add", (1, 1), 1), ("close",)))), ())
        self.assertEqual(apply_ask_step(SMALL, wrong, ("close", (("cases", 1), ("close",)))), ())
        self.assertEqual(apply_ask_step(SMALL, System(2, [("ge", (0, 0, -4))]), CLOSE), ())

    def test_what_is_not_refuted(self):
        wrong = System(2, [("ge", (0, 1, 0)), ("ge", (0, -1, -1))])
        self.check_fails(
            SMALL, wrong, CLOSE, ("close", ()), ("close", (("add", (1, 1), 1),)),
            ("close", (("add", (1, 1), 1), ("close",), ("close",))),
            ("close", (("add", (-1, 1), 1), ("close",))),
        )
        self.check_fails(SMALL, START, CLOSE, ("close", (("split", (1, 0, 0)),)))

    def test_other_forms(self):
        wrong = System(2, [("ge", (0, 0, -4))])
        self.check_fails(
            SMALL, wrong, ("close",), ("close", "close"), ("close", ("close",)), ("close", [("close",)]),
            ("close", (("close",),), 0), ["close", (("close",),)], ("close", None), ("Close", (("close",),)),
            ("close", 0), ("close", ((),)), ("close", (CLOSE,)),
        )

    def test_steps_of_refutations_are_none_of_derivations(self):
        self.check_fails(SMALL, START, ("add", (1,), 1), ("split", (1, 0, 0)), ("cases", 0))


class ChooseTest(StepsTest):
    def test_one_system_for_each_alternative(self):
        self.assertEqual(
            rows_of(apply_ask_step(SMALL, START, ("choose", 0))),
            [(LOW, HIGH) + START.rows, (("eq", (0, 1, 0)),) + START.rows],
        )
        self.assertEqual(rows_of(apply_ask_step(SMALL, START, ("choose", 1))), [(ODD,) + START.rows])
        self.assertEqual(apply_ask_step(SMALL, START, ("choose", 2)), ())
        found = apply_ask_step(ask(0, (((), ()),)), System(0, []), ("choose", 0))
        self.assertEqual(found, (System(0, []), System(0, [])))

    def test_further_variables_of_the_system(self):
        wide = System(4, [("ge", (1, 2, 3, 4, 5))])
        found = apply_ask_step(SMALL, wide, ("choose", 0))
        self.assertEqual(
            rows_of(found),
            [
                (("ge", (1, 0, 0, 0, -3)), ("ge", (-1, 2, 0, 0, 9))) + wide.rows,
                (("eq", (0, 1, 0, 0, 0)),) + wide.rows,
            ],
        )
        self.assertEqual([system.variables for system in found], [4, 4])
        found = apply_ask_step(SMALL, wide, ("choose", 1))
        self.assertEqual(rows_of(found), [(("div", 3, (1, 1, 0, 0, 1)),) + wide.rows])

    def test_clauses_that_are_none(self):
        self.check_fails(
            SMALL, START, ("choose", 3), ("choose", -1), ("choose", 100), ("choose", None), ("choose", "0"),
            ("choose", (0,)), ("choose", False),
        )
        self.check_fails(ask(1), System(1, []), ("choose", 0))

    def test_other_forms(self):
        self.check_fails(SMALL, START, ("choose",), ("choose", 0, 0), ["choose", 0], "choose", ("chose", 0))


class QuotientTest(StepsTest):
    def test_one_more_variable(self):
        found = apply_ask_step(SMALL, START, ("quotient", (3, -1, 5), 4))
        self.assertEqual(
            rows_of(found), [(("ge", (3, -1, -4, 5)), ("ge", (-3, 1, 4, -2)), ("ge", (1, 1, 0, 1)))]
        )
        self.assertEqual(found[0].variables, 3)
        found = apply_ask_step(SMALL, found[0], ("quotient", (0, 0, 1, 0), 1))
        self.assertEqual(found[0].rows[:2], (("ge", (0, 0, 1, -1, 0)), ("ge", (0, 0, -1, 1, 0))))
        self.assertEqual(
            found[0].rows[2:],
            (("ge", (3, -1, -4, 0, 5)), ("ge", (-3, 1, 4, 0, -2)), ("ge", (1, 1, 0, 0, 1))),
        )
        found = apply_ask_step(ask(0), System(0, []), ("quotient", (7,), 3))
        self.assertEqual(found, (System(1, [("ge", (-3, 7)), ("ge", (3, -5))]),))

    def test_divisors_keep_theirs(self):
        system = System(1, [("div", 5, (2, 1)), ("eq", (1, 1))])
        found = apply_ask_step(ask(1), system, ("quotient", (1, 0), 2))
        self.assertEqual(found[0].rows[2:], (("div", 5, (2, 0, 1)), ("eq", (1, 0, 1))))

    def test_what_it_says(self):
        for d in (1, 2, 3, 7):
            found = apply_ask_step(ask(1), System(1, []), ("quotient", (2, -3), d))[0]
            for x in range(-9, 10):
                values = [t for t in range(-30, 31) if (x, t) in found]
                self.assertEqual(values, [(2 * x - 3) // d])

    def test_what_may_not_be(self):
        self.check_fails(
            SMALL, START, ("quotient", (1, 0), 2), ("quotient", (1, 0, 0, 0), 2), ("quotient", (), 2),
            ("quotient", (1, 0, 0), 0), ("quotient", (1, 0, 0), -1), ("quotient", (1, 0, 0), None),
            ("quotient", (1, 0, 0), "1"), ("quotient", (1, 0, 0), True), ("quotient", [1, 0, 0], 1),
            ("quotient", (1, None, 0), 1), ("quotient", 1, 1), ("quotient", (1, 0, 0)),
            ("quotient", (1, 0, 0), 1, 1), ("quotient",), ("quotient", 1, (1, 0, 0)),
        )


class WitnessTest(StepsTest):
    def test_one_system_for_each_failure(self):
        # v = x - 2 in x + 2 v - 5 >= 0, y - 3 v + 4 >= 0, x + y - v == 0
        self.assertEqual(
            rows_of(apply_ask_step(SMALL, START, ("witness", 0, (0, 0), ((1, 0, -2),)))),
            [
                (("ge", (-3, 0, 8)),) + START.rows, (("ge", (3, -1, -11)),) + START.rows,
                (("ge", (0, 1, 1)),) + START.rows, (("ge", (0, -1, -3)),) + START.rows,
            ],
        )
        self.assertEqual(
            rows_of(apply_ask_step(SMALL, START, ("witness", 0, (0, 1), ((1, 0, -2),))))[2:],
            [(("div", 4, (1, 0, -1 - k)),) + START.rows for k in (1, 2, 3)],
        )

    def test_several_values_and_none(self):
        found = apply_ask_step(SMALL, START, ("witness", 1, (0,), ((0, 0, 7), (0, -1, 1))))
        self.assertEqual(
            rows_of(found),
            [(("ge", (0, -1, -7)),) + START.rows, (("div", 2, (1, -3, 2)),) + START.rows],
        )
        self.assertEqual(apply_ask_step(SMALL, START, ("witness", 2, (), ())), ())

    def test_further_variables_of_the_system(self):
        wide = System(3, [("eq", (1, 2, 3, 4))])
        found = apply_ask_step(SMALL, wide, ("witness", 1, (0,), ((0, 0, 2, 1), (1, 0, -1, 0))))
        self.assertEqual(
            rows_of(found),
            [(("ge", (1, 0, -3, -2)),) + wide.rows, (("div", 2, (4, 0, -3, -1)),) + wide.rows],
        )

    def test_constraints_that_cannot_fail(self):
        found = ask(1, (), ((1, (((("div", 1, (1, 1, 0)),),),)),))
        self.assertEqual(apply_ask_step(found, System(1, []), ("witness", 0, (0,), ((0, 0),))), ())

    def test_what_may_not_be(self):
        good = ((1, 0, -2),)
        self.check_fails(
            SMALL, START, ("witness", 3, (0, 0), good), ("witness", -1, (), ()), ("witness", None, (0, 0), good),
            ("witness", 0, (0,), good), ("witness", 0, (0, 0, 0), good), ("witness", 0, (1, 0), good),
            ("witness", 0, (0, 2), good), ("witness", 0, (0, -1), good), ("witness", 0, [0, 0], good),
            ("witness", 0, (0, None), good), ("witness", 0, (0, False), good), ("witness", 0, 0, good),
            ("witness", 0, (0, 0), ()), ("witness", 0, (0, 0), good + good), ("witness", 0, (0, 0), (1, 0, -2)),
            ("witness", 0, (0, 0), [(1, 0, -2)]), ("witness", 0, (0, 0), ((1, 0),)),
            ("witness", 0, (0, 0), ((1, 0, 0, 0),)), ("witness", 0, (0, 0), (("1", 0, 0),)),
            ("witness", 0, (0, 0), None), ("witness", 0, (0, 0)), ("witness", 0, (0, 0), good, 0),
            ("witness", 2, (0,), ()), ("witness", 2, (), ((1, 0, 0),)), ("witness",),
            ["witness", 0, (0, 0), good],
        )
        self.check_fails(ask(1), System(1, []), ("witness", 0, (), ()))


class EliminateTest(StepsTest):
    def expected(self, found, system, k, picks, j):
        """Point 60, by the cases of the module of eliminations."""
        further, clauses = found.hidden[k]
        rows = [row for pick, clause in zip(picks, clauses) for row in clause[pick]]
        left = [System(found.variables + further, rows)]
        for number in range(further):
            left = [case for other in left for case in cases(other, found.variables + further - 1 - number)]
        wanted = []
        for row in left[j].rows:
            zeros = (0,) * (system.variables - found.variables)
            for failure in failures(row):
                wide = failure[-1][:-1] + zeros + failure[-1][-1:]
                wanted.append((failure[:-1] + (wide,),) + system.rows)
        return wanted, len(left)

    def check(self, found, system, k, picks):
        j = 0
        many = 1
        while j < many:
            wanted, many = self.expected(found, system, k, picks, j)
            made = apply_ask_step(found, system, ("eliminate", k, picks, j))
            self.assertEqual(rows_of(made), wanted)
            self.assertEqual([s.variables for s in made], [system.variables] * len(made))
            j += 1
        self.check_fails(
            found, system, ("eliminate", k, picks, many), ("eliminate", k, picks, -1),
            ("eliminate", k, picks, None), ("eliminate", k, picks, True), ("eliminate", k, picks, (0,)),
        )
        return many

    def test_all_systems(self):
        for system in (START, System(2, []), System(3, [("ge", (1, 0, 1, 5))])):
            self.assertEqual(self.check(SMALL, system, 0, (0, 0)), 1)
            self.assertEqual(self.check(SMALL, system, 0, (0, 1)), 8)
            self.assertEqual(self.check(SMALL, system, 1, (0,)), 4)
            self.assertEqual(self.check(SMALL, system, 2, ()), 1)

    def test_written_out(self):
        # From x + y == v: 3 x + 2 y - 5 >= 0 and -3 x - 2 y + 4 >= 0.
        self.assertEqual(
            rows_of(apply_ask_step(SMALL, START, ("eliminate", 0, (0, 0), 0))),
            [(("ge", (-3, -2, 4)),) + START.rows, (("ge", (3, 2, -5)),) + START.rows],
        )
        self.assertEqual(apply_ask_step(SMALL, START, ("eliminate", 2, (), 0)), ())

    def test_the_last_variable_first(self):
        # x >= 2 v + w, w >= v, v >= 3 w: without w first, there is one system.
        rows = (("ge", (1, -2, -1, 0)), ("ge", (0, -1, 1, 0)), ("ge", (0, 1, -3, 0)))
        found = ask(1, (), ((2, ((rows,),)),))
        self.check(found, System(1, []), 0, (0,))

    def test_an_impossible_system(self):
        found = ask(1, (), ((1, (((("ge", (0, 0, -1)),),),)),))
        self.assertEqual(
            rows_of(apply_ask_step(found, System(1, []), ("eliminate", 0, (0,), 0))), [(("ge", (0, 0)),)]
        )

    def test_random_entries(self):
        chance = random.Random(60)
        done = 0
        while done < 60:
            rows = random_system(chance, 3, chance.randint(1, 3), 2).rows
            found = ask(1, (), ((2, ((rows,),)),))
            try:
                self.check(found, System(1, [("ge", random_expression(chance, 1, 2))]), 0, (0,))
            except TooMany:
                continue
            done += 1

    def test_what_may_not_be(self):
        self.check_fails(
            SMALL, START, ("eliminate", 3, (), 0), ("eliminate", -1, (0, 0), 0), ("eliminate", 0, (0,), 0),
            ("eliminate", 0, (0, 0, 0), 0), ("eliminate", 0, (1, 0), 0), ("eliminate", 0, [0, 0], 0),
            ("eliminate", 0, (0, -1), 0), ("eliminate", 0, (0, None), 0), ("eliminate", None, (0, 0), 0),
            ("eliminate", 0, 0, 0), ("eliminate", 0, (0, 0)), ("eliminate", 0, (0, 0), 0, 0), ("eliminate",),
            ["eliminate", 0, (0, 0), 0], ("eliminate", 2, (0,), 0),
        )


class OtherFormsTest(StepsTest):
    def test_they_cannot_be_taken(self):
        self.check_fails(
            SMALL, START, (), [], None, 0, "", "close", ("",), (None,), (0,), ((),), (CLOSE,), {}, (True,),
            ("close", "close", "close"), ("look", 0), ("eliminate", 0), ("quotient", 0, 0, 0),
        )

    def test_nothing_is_changed(self):
        before = (SMALL.clauses, SMALL.hidden, START.rows)
        for step in (
            ("choose", 0), ("quotient", (1, 0, 0), 2), ("witness", 0, (0, 0), ((1, 0, 0),)),
            ("eliminate", 0, (0, 1), 3),
        ):
            first = apply_ask_step(SMALL, START, step)
            self.assertEqual(apply_ask_step(SMALL, START, step), first)
            self.assertEqual((SMALL.clauses, SMALL.hidden, START.rows), before)


def bounds(lowers, uppers, others):
    """A hidden entry that becomes lowers * uppers + others constraints, and one that stays."""
    rows = [("ge", (0, 1, k)) for k in range(lowers)] + [("ge", (0, -1, k)) for k in range(uppers)]
    return (1, ((tuple(rows + [("ge", (0, 0, k)) for k in range(others)]),),))


class LimitsTest(StepsTest):
    """Point 61."""

    def check_raises(self, error, found, system, step):
        with self.assertRaises(error):
            apply_ask_step(found, system, step)

    def heavy(self, count):
        return System(2, [("ge", (0, 1, k)) for k in range(count)])

    def test_close_has_limits_of_its_own(self):
        rows = [("div", 201, (1, 0))]
        self.check_raises(TooMany, ask(1), System(1, rows), ("close", (("cases", 0),)))
        self.check_raises(TooGreat, ask(1), System(1, []), ("close", (("split", (1, GREAT)),)))
        self.check_raises(TooMany, ask(2), self.heavy(1999), ("close", (("split", (1, 0, 0)),)))
        self.check_fails(ask(2), self.heavy(1998), ("close", (("split", (1, 0, 0)),)))
        self.check_fails(ask(1), System(1, rows), ("close", (("close",), ("cases", 0))))

    def test_close_counts_the_systems_of_its_refutation_alone(self):
        # Ten systems are left beside the one that is refuted, with a weight of 303 each.
        wide = tuple([("ge", (1, k)) for k in range(300)])
        wrong = (("ge", (1, 0)), ("ge", (-1, -1)))
        found = ask(1, ((wrong,) + (wide,) * 13,))
        steps = tuple([("split", (1, 5 + k)) for k in range(3)])
        with self.assertRaises(StepFails):
            apply_ask_step(found, System(1, wide + wrong), ("close", steps))
        ends = (("add", (1, 1), 1), ("close",))
        self.assertIs(settles(found, (("choose", 0), ("close", ends))), False)
        with self.assertRaises(TooMany):
            settles(found, (("choose", 0), ("close", ends), ("choose", 0)))
        # One system with a weight of 3990, refuted by way of two with 1998 and less.
        heavy = (("ge", (1, 0)), ("ge", (-1, -1))) + tuple([("ge", (1, k)) for k in range(1, 1990)])
        found = ask(1, ((heavy, heavy),))
        close = ("close", (("split", (1, 9)),) + (("add", (0, 1, 1), 1), ("close",)) * 2)
        self.assertIs(settles(found, (("choose", 0), close, close)), True)

    def test_the_weight_of_what_is_left(self):
        clause = ((("ge", (1, 0, 0)),), (("ge", (0, 1, 0)),))
        found = ask(2, (clause,))
        self.assertEqual(len(apply_ask_step(found, self.heavy(1998), ("choose", 0))), 2)
        self.check_raises(TooMany, found, self.heavy(1999), ("choose", 0))
        self.assertEqual(len(apply_ask_step(found, self.heavy(3997), ("quotient", (1, 0, 0), 1))), 1)
        self.check_raises(TooMany, found, self.heavy(3998), ("quotient", (1, 0, 0), 1))

    def test_the_weight_of_failures(self):
        entry = (0, (((("eq", (1, 0, 0)), ("ge", (0, 1, 0)), ("div", 2, (1, 0, 0))),),))
        found = ask(2, (), (entry,))
        for step in (("witness", 0, (0,), ()), ("eliminate", 0, (0,), 0)):
            self.assertEqual(len(apply_ask_step(found, self.heavy(998), step)), 4)
            self.check_raises(TooMany, found, self.heavy(999), step)

    def test_the_weight_of_one_failure(self):
        for row in (("ge", (1, 0, 0)), ("div", 2, (1, 0, 0))):
            found = ask(2, (), ((0, (((row,),),)),))
            for step in (("witness", 0, (0,), ()), ("eliminate", 0, (0,), 0)):
                self.assertEqual(len(apply_ask_step(found, self.heavy(3998), step)), 1)
                self.check_raises(TooMany, found, self.heavy(3999), step)

    def test_a_great_divisor(self):
        for m in (2001, 2002, GREAT, 10 ** 30):
            found = ask(1, (), ((0, (((("div", m, (1, 0)),),),)),))
            for step in (("witness", 0, (0,), ()), ("eliminate", 0, (0,), 0)):
                if m == 2001:
                    self.assertEqual(len(apply_ask_step(found, System(1, []), step)), 2000)
                else:
                    self.check_raises(TooMany, found, System(1, []), step)

    def test_the_weight_of_all_that_are_left(self):
        clause = ((("ge", (1, 0)),), (("ge", (-1, 0)),))
        wide = tuple([("ge", (1, k)) for k in range(995)])
        found = ask(1, (clause, (wide,)))
        choices = (("choose", 1), ("choose", 0), ("choose", 0), ("choose", 0))
        # 999, 999, 998, 997
        self.assertIs(settles(found, choices), False)
        quotients = tuple([("quotient", (0,) * (2 + k), 1) for k in range(4)])
        self.assertIs(settles(found, choices + quotients[:3]), False)
        with self.assertRaises(TooMany):
            settles(found, choices + quotients)

    def test_the_number_of_variables(self):
        for many, raises in ((39, False), (40, True)):
            step = ("quotient", (0,) * (many + 1), 1)
            if raises:
                self.check_raises(TooMany, ask(1), System(many, []), step)
            else:
                self.assertEqual(apply_ask_step(ask(1), System(many, []), step)[0].variables, 40)

    def test_great_numbers(self):
        for number, raises in ((GREAT, False), (GREAT + 1, True), (-GREAT, False), (-GREAT - 1, True)):
            found = ask(1, (((("ge", (number, 0)),),),))
            for system, step in (
                (System(1, []), ("choose", 0)), (System(1, [("ge", (number, 0))]), ("quotient", (1, 0), 1)),
                (System(1, []), ("quotient", (number, 0), 1)),
            ):
                if raises:
                    self.check_raises(TooGreat, found, system, step)
                else:
                    apply_ask_step(found, system, step)
        self.check_raises(TooGreat, ask(1), System(1, []), ("quotient", (1, 0), GREAT + 1))
        self.check_raises(TooGreat, ask(1), System(1, []), ("quotient", (1, -2), GREAT))
        entry = (1, (((("ge", (2, 1, 0)),),),))
        found = ask(1, (), (entry,))
        apply_ask_step(found, System(1, []), ("witness", 0, (0,), ((GREAT - 2, 0),)))
        self.check_raises(TooGreat, found, System(1, []), ("witness", 0, (0,), ((GREAT - 1, 0),)))
        self.check_raises(TooGreat, found, System(1, []), ("witness", 0, (0,), ((0, GREAT),)))

    def test_too_many_comes_before_too_great(self):
        found = ask(2, (((("ge", (GREAT + 1, 0, 0)),), ()),))
        self.check_raises(TooMany, found, self.heavy(2000), ("choose", 0))
        self.check_raises(TooGreat, found, self.heavy(1990), ("choose", 0))
        self.check_raises(TooMany, ask(1), System(40, []), ("quotient", (0,) * 41, GREAT + 1))
        entry = (0, (((("eq", (GREAT + 1, 0, 0)), ("eq", (1, 0, 0))),),))
        found = ask(2, (), (entry,))
        self.check_raises(TooMany, found, self.heavy(999), ("witness", 0, (0,), ()))
        self.check_raises(TooGreat, found, self.heavy(998), ("witness", 0, (0,), ()))

    def test_too_great_is_for_what_the_step_has_made(self):
        found = ask(1, (((("ge", (0, -1)),), (("ge", (GREAT, 0)),)),))
        great = System(1, [("ge", (GREAT + 1, 0)), ("ge", (0, -1))])
        self.assertEqual(apply_ask_step(found, great, CLOSE), ())
        self.check_raises(TooGreat, found, great, ("choose", 0))

    def test_steps_that_cannot_be_taken_come_first(self):
        self.check_fails(SMALL, self.heavy(5000), ("choose", 7), ("quotient", (1, 0), 1), CLOSE)
        self.check_fails(SMALL, System(50, []), ("choose", 7), ("quotient", (1, 0), 1))
        found = ask(1, (), ((0, (((("div", GREAT, (1, 0)),),),)),))
        self.check_fails(found, System(1, []), ("witness", 0, (1,), ()), ("eliminate", 0, (0,), 1))


class EliminateLimitsTest(StepsTest):
    def raises(self, error, entry, picks=(0,), j=0):
        with self.assertRaises(error):
            apply_ask_step(ask(1, (), (entry,)), System(1, []), ("eliminate", 0, picks, j))

    def made(self, entry, j=0):
        return len(apply_ask_step(ask(1, (), (entry,)), System(1, []), ("eliminate", 0, (0,), j)))

    def test_the_number_of_cases(self):
        for many in (199, 200):
            self.assertEqual(self.made((1, (((("div", many, (0, 1, 0)),),),))), 0)
        # The limit stands ahead of the number of the system.
        for j in (0, 7, 10 ** 9, -1, None):
            self.raises(TooMany, (1, (((("div", 201, (0, 1, 0)),),),)), j=j)

    def test_the_cases_of_each_system(self):
        # 20 cases, and so many for each of them.
        for m, error in ((10, None), (11, None), (201, TooMany)):
            rows = (("div", m, (1, 1, 0, 0)), ("div", 20, (1, 0, 1, 0)))
            found = ask(1, (), ((2, ((rows,),)),))
            if error is not None:
                self.raises(error, found.hidden[0])
                continue
            last = apply_ask_step(found, System(1, []), ("eliminate", 0, (0,), 20 * m - 1))
            self.assertEqual(len(last), m - 1 + 19)
            self.check_fails(found, System(1, []), ("eliminate", 0, (0,), 20 * m))

    def test_the_constraints_of_a_case_ahead_of_reducing(self):
        self.assertEqual(self.made(bounds(50, 80, 0)), 0)
        self.assertEqual(self.made(bounds(50, 79, 50)), 0)
        for entry in (bounds(50, 80, 1), bounds(1, 1, 4000), bounds(0, 0, 4001)):
            for j in (0, 5):
                self.raises(TooMany, entry, j=j)

    def many_rows(self, many):
        """What becomes 200 systems with so many constraints over two variables."""
        rows = tuple([("ge", (1, k, 0, 0)) for k in range(many - 1)])
        return rows + (("div", 200, (1, 0, 1, 0)),)

    def test_the_weight_of_the_systems(self):
        found = ask(2, (), ((1, ((self.many_rows(19),),)),))
        self.assertEqual(len(apply_ask_step(found, START, ("eliminate", 0, (0,), 199))), 18 + 199)
        found = ask(2, (), ((1, ((self.many_rows(20),),)),))
        for j in (0, 200, -1):
            with self.assertRaises(TooMany):
                apply_ask_step(found, START, ("eliminate", 0, (0,), j))
        # One system, with a weight of 4000 and of 4001.
        for many, error in ((3999, StepFails), (4000, TooMany)):
            entry = (1, ((tuple([("ge", (1, k, 0, 0)) for k in range(many)]),),))
            with self.assertRaises(error):
                apply_ask_step(ask(2, (), (entry,)), START, ("eliminate", 0, (0,), 1))

    def test_great_numbers(self):
        # The failure of a constant below GREAT is not too great either.
        for number, raises in ((GREAT - 1, False), (GREAT + 1, True)):
            entry = (1, (((("ge", (1, 0, number)), ("eq", (0, 1, 0))),),))
            if raises:
                self.raises(TooGreat, entry)
                self.raises(TooGreat, entry, j=3)
            else:
                self.assertEqual(self.made(entry), 1)

    def test_numbers_of_systems_in_between(self):
        # Without the last variable there is a constant that is too great; it is divided later.
        rows = (("eq", (0, 1, 0, 0)), ("ge", (0, 1, 3, GREAT)), ("ge", (0, 0, -1, 5)))
        self.raises(TooGreat, (2, ((rows + (("ge", (0, 1, 1, GREAT + 9)),),),)))

    def test_the_order(self):
        great = (1, (((("div", 201, (0, 1, 0)), ("ge", (1, 0, GREAT + 1))),),))
        self.raises(TooMany, great)
        for step in (("eliminate", 1, (0,), 0), ("eliminate", 0, (1,), 0), ("eliminate", 0, (), 0)):
            self.check_fails(ask(1, (), (great,)), System(1, []), step)
        rows = self.many_rows(20) + (("ge", (1, -1, 0, GREAT + 1)),)
        with self.assertRaises(TooMany):
            apply_ask_step(ask(2, (), ((1, ((rows,),)),)), START, ("eliminate", 0, (0,), 0))
        self.raises(TooGreat, (1, (((("ge", (1, 0, GREAT + 1)),),),)), j=9)


CHAIN = "params n; context n >= 1; array a[]; for i = 0 to n - 1 { a[i] = f(a[i - 1]); }"


class SettlesTest(unittest.TestCase):
    # x >= 3 or x <= -3, and x == 0; nothing with x - 1 <= v <= x + 1 and 2 v == x.
    ASK = ask(
        1,
        (((("ge", (1, -3)),), (("ge", (-1, -3)),)), ((("eq", (1, 0)),),)),
        ((1, (((("ge", (-1, 1, 1)), ("ge", (1, -1, 1)), ("eq", (-1, 2, 0))),),)),),
    )
    STEPS = (
        ("choose", 1), ("choose", 0), ("close", (("add", (1, -1), 1), ("close",))),
        ("close", (("add", (1, 1), 1), ("close",))),
    )

    def test_a_derivation(self):
        self.assertIs(settles(self.ASK, self.STEPS), True)
        other = (("choose", 0), ("choose", 1), ("close", (("cases", 0), ("close",)))) + (
            ("choose", 1), ("close", (("cases", 0), ("close",))),
        )
        self.assertIs(settles(self.ASK, other), True)

    def test_steps_that_are_missing_or_too_many(self):
        for at in range(len(self.STEPS)):
            self.assertIs(settles(self.ASK, self.STEPS[:at] + self.STEPS[at + 1:]), False)
        for step in self.STEPS + (("choose", 0), ("witness", 0, (0,), ((0, 0),))):
            self.assertIs(settles(self.ASK, self.STEPS + (step,)), False)
        self.assertIs(settles(self.ASK, ()), False)
        self.assertIs(settles(self.ASK, self.STEPS[:2] + self.STEPS[3:] + self.STEPS[2:3]), False)
        self.assertIs(settles(self.ASK, self.STEPS[:3] + self.STEPS[2:]), False)

    def test_a_clause_may_be_chosen_from_twice(self):
        close = self.STEPS[2:]
        first = ("close", (("add", (0, 1, -1), 1), ("close",)))
        self.assertIs(settles(self.ASK, self.STEPS[:1] + (("choose", 1), ("choose", 0)) + close), True)
        self.assertIs(settles(self.ASK, (("choose", 1), ("choose", 0), ("choose", 1), first) + close[1:]), True)
        self.assertIs(settles(self.ASK, (("choose", 0), ("choose", 0), ("choose", 1)) + close), False)

    def test_hidden_entries(self):
        # What is left at first is replaced by what excludes that v is 0: x != 0 or |x| > 1.
        witness = ("witness", 0, (0,), ((0, 0),))
        closes = ("choose", 1), ("close", (("add", (1, 1), 1), ("close",)))
        others = ("choose", 1), ("close", (("add", (1, -1), 1), ("close",)))
        found = ask(1, self.ASK.clauses[1:], self.ASK.hidden)
        steps = (witness,)
        for row in (("ge", (1, -2)), ("ge", (-1, -2)), ("ge", (-1, -1)), ("ge", (1, -1))):
            sign = row[1][0]
            steps += (("choose", 0), ("close", (("add", (-sign, 1), 1), ("close",))))
        self.assertIs(settles(found, steps), True)
        self.assertIs(settles(found, steps[:-1]), False)
        self.assertIs(settles(found, steps[1:]), False)
        self.assertIs(settles(self.ASK, (witness,) + closes + others), False)

    def test_what_settles_has_no_point(self):
        chance = random.Random(58)
        counts = {True: 0, False: 0}
        for _ in range(3000):
            clauses = tuple([
                tuple([random_system(chance, 1, 1, 2).rows for _ in range(chance.randint(1, 2))])
                for _ in range(2)
            ])
            found = ask(1, clauses, ((1, ((random_system(chance, 2, 2, 2).rows,),)),))
            steps = [("choose", 0), ("choose", 1)]
            steps.insert(chance.randrange(3), ("witness", 0, (0,), (random_expression(chance, 1, 1),)))
            steps = self.closed(found, steps)
            if steps is None:
                continue
            result = settles(found, steps)
            counts[result] += 1
            if result:
                points = [
                    (x,) for x in range(-9, 10)
                    if clauses_hold(clauses, (x,))
                    and not any(clauses_hold(found.hidden[0][1], (x, v)) for v in range(-40, 41))
                ]
                self.assertEqual(points, [], (found, steps))
        self.assertGreater(counts[True], 50)

    def closed(self, found, steps):
        """Some steps with all that can be closed closed, or None if a step cannot be taken."""
        left = [(start_of(found), tuple(steps))]
        done = ()
        while left and len(done) < 60:
            system, ahead = left.pop(0)
            close = ("close", (("cases", 0),) + (("close",),))
            try:
                apply_ask_step(found, system, close)
                done += (close,)
                continue
            except (StepFails, TooMany):
                pass
            if not ahead:
                return done
            try:
                made = apply_ask_step(found, system, ahead[0])
            except StepFails:
                return None
            done += (ahead[0],)
            left = [(other, ahead[1:]) for other in made] + left
        return done


class AcceptsTest(unittest.TestCase):
    """A program with one statement that reads what nobody writes, and one array that stays."""

    def setUp(self):
        self.program = Program.parse("params n; array a[]; temp b; for i = 1 to n { a[i] = f(b); }")
        self.schedule = Schedule.parse("rows par; f: i;", self.program)
        self.asks = asks_of(self.program, self.schedule)
        # "end": two instances write the same cell only if they are one; "moved": no alternative.
        apart = (
            ("close", (("add", (1, 1), 1), ("close",))), ("close", (("add", (1, -1), 1), ("close",))),
        )
        self.end = (("choose", 3), ("choose", 5)) + apart
        self.moved = (("choose", 2),)

    def test_the_asks(self):
        self.assertEqual([found.kind for found in self.asks], ["end", "moved"])
        self.assertEqual([settles(*pair) for pair in zip(self.asks, (self.end, self.moved))], [True, True])

    def accepted(self, *derivations, folding=()):
        return accepts(self.program, self.schedule, derivations, folding=folding)

    def test_all_of_them(self):
        self.assertIs(self.accepted(self.end, self.moved), True)
        self.assertIs(accepts(self.program, self.schedule, [self.end, self.moved]), True)

    def test_others(self):
        for derivations in (
            (), (self.end,), (self.moved,), (self.moved, self.end), (self.end, self.end),
            (self.moved, self.moved), (self.end, self.moved, self.moved), (self.end, self.moved, ()),
            ((), self.moved), (self.end, ()), (self.end[:-1], self.moved), (self.end + self.end[-1:], self.moved),
            ((self.end[1], self.end[0]) + self.end[2:], self.moved),
        ):
            self.assertIs(self.accepted(*derivations), False, derivations)

    def test_no_asks(self):
        program = Program.parse("array a[];")
        schedule = Schedule.parse("rows;", program)
        self.assertIs(accepts(program, schedule, ()), True)
        self.assertIs(accepts(program, schedule, ((),)), False)

    def test_the_first_that_does_not_settle_ends_the_check(self):
        great = (("quotient", (0, 0, 0, 0, 0, GREAT + 1), 1),)
        many = (("close", (("split", (0,) * 6),)),)
        with self.assertRaises(TooGreat):
            self.accepted(great, self.moved)
        self.assertIs(self.accepted((), great), False)
        self.assertIs(self.accepted(great), False)
        self.assertIs(self.accepted(great, self.moved, ()), False)
        self.assertIs(self.accepted(many, great), False)
        with self.assertRaises(TooGreat):
            self.accepted(self.end, (("quotient", (GREAT + 1, 0, 0, 0), 1),))
        wide = (("quotient", (1, 0, 0, 0), 1),)
        for _ in range(40):
            wide += (("quotient", (0,) * (4 + len(wide)), 1),)
        with self.assertRaises(TooMany):
            self.accepted(self.end, wide)

    def test_foldings_that_do_not_fit_come_first(self):
        great = (("quotient", (0, 0, 0, 0, 0, GREAT + 1), 1),)
        for derivations in ((), (great, great), (self.end, self.moved)):
            for folding in (((1,),), ((), (1,)), ((), (), ())):
                with self.assertRaises(BadFolding):
                    self.accepted(*derivations, folding=folding)
        self.assertIs(self.accepted(self.end, self.moved, folding=((0,), ())), True)

    def test_the_same_again_behind_another_question(self):
        text = Program.parse(self.program.text)
        schedule = Schedule.parse(self.schedule.text, text)
        other = Schedule.parse("rows seq; f: n - i;", self.program)
        for _ in range(2):
            self.assertIs(self.accepted(self.end, self.moved), True)
            self.assertIs(accepts(text, schedule, (self.end, self.moved)), True)
            self.assertIs(accepts(self.program, other, (self.moved, self.moved)), False)

    def test_a_fault_is_not_settled(self):
        program = Program.parse(CHAIN)
        for rows, expected in (("rows seq; f: i;", True), ("rows par; f: i;", False)):
            late = asks_of(program, Schedule.parse(rows, program))[1]
            # Sequential: w = x - 1 has an earlier time; in parallel, that does not help.
            steps = (
                ("choose", 1), ("choose", 2), ("choose", 3), ("choose", 5),
                ("close", (("cases", 3), ("cases", 3), ("cases", 1), ("close",))),
            )
            steps += steps[-1:] * (len(late.clauses[5]) - 1)
            self.assertIs(settles(late, steps), expected)


if __name__ == "__main__":
    unittest.main()
