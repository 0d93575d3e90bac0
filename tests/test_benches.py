"""Points 76 and 77: benches and trials."""

import unittest

from loopworks.asks import asks_of
from loopworks.benches import Bench
from loopworks.derivations import accepts
from loopworks.errors import BadFolding, NotArranged, Outside, TooGreat, TooMany
from loopworks.faults import Faults
from loopworks.generating import generate
from loopworks.nests import Nest
from loopworks.programs import Program
from loopworks.schedules import Schedule
from loopworks.searching import search

STAGES = (
    "params n; context n >= 1; temp b[]; array a[]; for i = 0 to n { b[i] = f(); } "
    "for i = 1 to n { a[i] = g(b[i], b[i - 1]); }"
)
GREAT = 10 ** 18


class BenchTest(unittest.TestCase):
    def setUp(self):
        self.program = Program.parse(STAGES)
        self.fused = Schedule.parse("rows seq, seq; f: i, 0; g: i, 1;", self.program)
        self.parallel = Schedule.parse("rows par; f: 0; g: 0;", self.program)
        self.folding = ((2,),)
        self.good = search(self.program, self.fused, folding=self.folding)[1]
        self.bench = Bench(self.program)

    def state(self, bench=None):
        bench = bench or self.bench
        return (bench.schedule, bench.folding, bench.accepted, bench.is_arranged)

    def too_great(self):
        """Derivations of which the first one raises TooGreat."""
        first = asks_of(self.program, self.fused)[0].variables
        return ((("quotient", (GREAT + 1,) + (0,) * first, 1),),) + self.good[1:]

    def too_many(self):
        first = asks_of(self.program, self.fused)[0].variables
        steps = tuple([("quotient", (0,) * (first + 1 + k), 1) for k in range(45)])
        return (steps,) + self.good[1:]


class StateTest(BenchTest):
    def test_at_first(self):
        self.assertIs(self.bench.program, self.program)
        self.assertEqual(self.state(), (None, (), False, False))
        self.assertIs(self.bench.is_arranged, False)

    def test_what_needs_a_schedule(self):
        for call in (
            lambda: self.bench.submit(()), lambda: self.bench.submit(self.good), lambda: self.bench.problems((3,)),
            lambda: self.bench.problems((-9,)), lambda: self.bench.loops(),
        ):
            with self.assertRaises(NotArranged):
                call()
            self.assertEqual(self.state(), (None, (), False, False))

    def test_arrange(self):
        self.assertIsNone(self.bench.arrange(self.fused))
        self.assertEqual(self.state(), (self.fused, (), False, True))
        self.bench.arrange(self.parallel, folding=self.folding)
        self.assertEqual(self.state(), (self.parallel, self.folding, False, True))
        self.bench.arrange(self.fused)
        self.assertEqual(self.state(), (self.fused, (), False, True))

    def test_arrange_with_a_folding_that_does_not_fit(self):
        for folding in (((17,),), ((2, 2),), ((2,), (1,)), ((2,), (), ()), ((-1,),)):
            with self.assertRaises(BadFolding):
                self.bench.arrange(self.fused, folding=folding)
            self.assertEqual(self.state(), (None, (), False, False))
        self.bench.arrange(self.fused, folding=self.folding)
        self.assertIs(self.bench.submit(self.good), True)
        with self.assertRaises(BadFolding):
            self.bench.arrange(self.parallel, folding=((17,),))
        self.assertEqual(self.state(), (self.fused, self.folding, True, True))

    def test_several_benches(self):
        other = Bench(self.program)
        self.bench.arrange(self.fused, folding=self.folding)
        self.bench.submit(self.good)
        self.assertEqual(self.state(other), (None, (), False, False))
        other.arrange(self.parallel)
        self.assertEqual(self.state(), (self.fused, self.folding, True, True))


class SubmitTest(BenchTest):
    def test_accepted(self):
        self.bench.arrange(self.fused, folding=self.folding)
        self.assertIs(self.bench.submit(self.good), True)
        self.assertEqual(self.state(), (self.fused, self.folding, True, True))
        self.assertIs(self.bench.submit(list(self.good)), True)

    def test_not_accepted(self):
        self.bench.arrange(self.fused, folding=self.folding)
        for derivations in ((), self.good[:-1], self.good + self.good[:1], self.good[1:] + self.good[:1]):
            self.assertIs(self.bench.submit(derivations), False)
            self.assertEqual(self.state(), (self.fused, self.folding, False, True))

    def test_an_accepted_bench_stays_accepted(self):
        self.bench.arrange(self.fused, folding=self.folding)
        self.bench.submit(self.good)
        self.assertIs(self.bench.submit(()), False)
        self.assertIs(self.bench.accepted, True)
        with self.assertRaises(TooGreat):
            self.bench.submit(self.too_great())
        self.assertEqual(self.state(), (self.fused, self.folding, True, True))

    def test_errors(self):
        self.bench.arrange(self.fused, folding=self.folding)
        for derivations, error in ((self.too_great(), TooGreat), (self.too_many(), TooMany)):
            with self.assertRaises(error):
                self.bench.submit(derivations)
            self.assertEqual(self.state(), (self.fused, self.folding, False, True))

    def test_behind_another_arrange(self):
        self.bench.arrange(self.fused, folding=self.folding)
        self.bench.submit(self.good)
        self.bench.arrange(self.fused, folding=self.folding)
        self.assertIs(self.bench.accepted, False)
        self.bench.arrange(self.parallel)
        self.assertIs(self.bench.submit(self.good), False)
        self.bench.arrange(self.fused, folding=((1,),))
        self.assertIs(self.bench.submit(self.good), False)
        self.bench.arrange(self.fused, folding=self.folding)
        self.assertIs(self.bench.submit(self.good), True)

    def test_no_asks(self):
        program = Program.parse("params n;")
        bench = Bench(program)
        bench.arrange(Schedule.parse("rows seq;", program))
        self.assertIs(bench.submit(((),)), False)
        self.assertIs(bench.submit(()), True)
        self.assertIs(bench.accepted, True)


class ProblemsTest(BenchTest):
    def test_faults(self):
        for schedule, folding in ((self.fused, ((1,),)), (self.parallel, ()), (self.fused, self.folding)):
            self.bench.arrange(schedule, folding=folding)
            for n in (1, 2, 5):
                found = self.bench.problems((n,))
                self.assertIsInstance(found, tuple)
                nest = Nest(self.program, (n,))
                self.assertEqual(found, tuple(Faults(nest, schedule, folding=folding)))
            self.assertEqual(self.state(), (schedule, folding, False, True))
        self.assertEqual(found, ())

    def test_errors(self):
        self.bench.arrange(self.fused, folding=self.folding)
        self.bench.submit(self.good)
        for sizes, error in (((0,), Outside), ((-5,), Outside), ((50,), TooMany)):
            with self.assertRaises(error):
                self.bench.problems(sizes)
            self.assertEqual(self.state(), (self.fused, self.folding, True, True))


class LoopsTest(BenchTest):
    def test_generated_code(self):
        for schedule in (self.fused, self.parallel):
            self.bench.arrange(schedule, folding=self.folding)
            self.assertEqual(self.bench.loops(), generate(self.program, schedule))
            self.assertEqual(self.bench.loops().body, generate(self.program, schedule).body)
            self.assertEqual(self.state(), (schedule, self.folding, False, True))

    def test_too_great(self):
        program = Program.parse(
            "params n; array a; for i = -99 to 2 * n + 99 { for j = 2 * n - 4 * i - 100 to n - 53 { "
            "for k = 3 * n - 3 * i + 4 * j - 100 to 4 * i - 3 * j + 1 { a = f(); } } }"
        )
        schedule = Schedule.parse(
            "rows seq, seq, seq; f: floor(89 - 3 * n + i - 4 * k, 3), floor(-n - k - 100, 7), "
            "floor(3 * n - 2 * k - 1, 8);", program,
        )
        bench = Bench(program)
        bench.arrange(schedule)
        with self.assertRaises(TooGreat):
            bench.loops()
        self.assertEqual(self.state(bench), (schedule, (), False, True))


class Stop(Exception):
    pass


class TriedTest(BenchTest):
    def test_it_gives_the_bench(self):
        with self.bench.tried() as given:
            self.assertIs(given, self.bench)

    def test_what_was_done_within(self):
        with self.bench.tried() as given:
            given.arrange(self.fused, folding=self.folding)
            self.assertIs(given.submit(self.good), True)
            self.assertIs(given.accepted, True)
            self.assertIs(given.is_arranged, True)
        self.assertEqual(self.state(), (None, (), False, False))

    def test_an_accepted_bench_is_accepted_again(self):
        self.bench.arrange(self.fused, folding=self.folding)
        self.bench.submit(self.good)
        with self.bench.tried() as given:
            given.arrange(self.parallel)
            self.assertEqual(self.state(), (self.parallel, (), False, True))
        self.assertEqual(self.state(), (self.fused, self.folding, True, True))

    def test_acceptance_within_does_not_stay(self):
        self.bench.arrange(self.fused, folding=self.folding)
        with self.bench.tried() as given:
            self.assertIs(given.submit(self.good), True)
        self.assertEqual(self.state(), (self.fused, self.folding, False, True))

    def test_errors_within(self):
        self.bench.arrange(self.fused, folding=self.folding)
        self.bench.submit(self.good)
        with self.assertRaises(Stop):
            with self.bench.tried() as given:
                given.arrange(self.parallel)
                raise Stop
        self.assertEqual(self.state(), (self.fused, self.folding, True, True))
        with self.assertRaises(BadFolding):
            with self.bench.tried() as given:
                given.arrange(self.parallel)
                given.arrange(self.parallel, folding=((99,),))
        self.assertEqual(self.state(), (self.fused, self.folding, True, True))

    def test_one_within_another(self):
        self.bench.arrange(self.fused)
        with self.bench.tried() as outer:
            outer.arrange(self.parallel, folding=self.folding)
            with outer.tried() as inner:
                self.assertIs(inner, outer)
                inner.arrange(self.fused, folding=self.folding)
                inner.submit(self.good)
                self.assertIs(self.bench.accepted, True)
            self.assertEqual(self.state(), (self.parallel, self.folding, False, True))
            outer.arrange(self.fused, folding=((1,),))
        self.assertEqual(self.state(), (self.fused, (), False, True))

    def test_the_state_when_the_trial_was_made(self):
        trial = self.bench.tried()
        self.bench.arrange(self.fused, folding=self.folding)
        with trial as given:
            self.assertIs(given.schedule, self.fused)
        self.assertEqual(self.state(), (None, (), False, False))

    def test_a_return_within(self):
        def within(bench):
            with bench.tried() as given:
                given.arrange(self.fused)
                return given.schedule

        self.assertIs(within(self.bench), self.fused)
        self.assertEqual(self.state(), (None, (), False, False))


class AttemptTest(BenchTest):
    def test_what_submit_would_return(self):
        attempt = self.bench.attempt
        self.assertIs(attempt(self.fused, self.good, folding=self.folding), True)
        self.assertEqual(self.state(), (None, (), False, False))
        self.assertIs(attempt(self.fused, self.good), accepts(self.program, self.fused, self.good))
        self.assertIs(attempt(self.parallel, self.good, folding=self.folding), False)
        self.assertIs(attempt(self.fused, (), folding=self.folding), False)
        self.assertEqual(self.state(), (None, (), False, False))

    def test_an_accepted_bench(self):
        self.bench.arrange(self.fused, folding=self.folding)
        self.bench.submit(self.good)
        self.assertIs(self.bench.attempt(self.parallel, self.good), False)
        self.assertEqual(self.state(), (self.fused, self.folding, True, True))
        self.bench.arrange(self.parallel)
        self.assertIs(self.bench.attempt(self.fused, self.good, folding=self.folding), True)
        self.assertEqual(self.state(), (self.parallel, (), False, True))

    def test_errors(self):
        self.bench.arrange(self.fused, folding=self.folding)
        self.bench.submit(self.good)
        for derivations, folding, error in (
            (self.good, ((99,),), BadFolding), ((), ((99,),), BadFolding),
            (self.too_great(), self.folding, TooGreat), (self.too_many(), self.folding, TooMany),
        ):
            with self.assertRaises(error):
                self.bench.attempt(self.fused, derivations, folding=folding)
            self.assertEqual(self.state(), (self.fused, self.folding, True, True))


if __name__ == "__main__":
    unittest.main()
