"""Points 50 to 57: the asks of a program, a schedule and a folding, and the points of faults."""

import random
import unittest
from itertools import product

from loopworks.asks import Ask, asks_of, clauses_hold, point_of_fault
from loopworks.errors import BadFolding
from loopworks.faults import Faults
from loopworks.programs import Program
from loopworks.schedules import Schedule, time_of
from tests.cases import made, random_cases, random_folding
from tests.random_programs import random_program
from tests.test_schedules import random_schedule

CHAIN = "params n; context n >= 1; array a[]; for i = 0 to n - 1 { a[i] = f(a[i - 1]); }"
NESTED = (
    "params n, m; context n >= 1 and 2 divides m; temp b[,]; array a[]; "
    "for i = 0 to n { for j = max(i, 1) to min(n, m, 9) { "
    "if 3 divides i + j and i == j { b[i, j] = f(a[j]); } } a[i] = g(b[i, n], a[2 * i]); }"
)
NESTED_ROWS = "rows seq, par; f: floor(i + j, 2), n - j; g: n + i, 3;"


def asks(program, schedule, folding=()):
    program = Program.parse(program)
    return asks_of(program, Schedule.parse(schedule, program), folding=folding)


def heads(program, schedule, folding=()):
    return [(ask.kind, ask.statement, ask.read, ask.others) for ask in asks(program, schedule, folding)]


class Over:
    """Constraints over variables with names, of texts; independent of the package."""

    def __init__(self, names):
        self.names = names.split()

    def expression(self, text):
        zeros = dict.fromkeys(self.names, 0)
        constant = eval(text, {}, zeros)
        return tuple([eval(text, {}, {**zeros, n: 1}) - constant for n in self.names]) + (constant,)

    def ge(self, *texts):
        return tuple([("ge", self.expression(text)) for text in texts])

    def eq(self, *texts):
        return tuple([("eq", self.expression(text)) for text in texts])

    def div(self, m, text):
        return (("div", m, self.expression(text)),)

    def orders(self, *texts):
        """A clause with one inequality in each alternative."""
        return tuple([self.ge(text) for text in texts])


class OrderTest(unittest.TestCase):
    def test_one_statement(self):
        self.assertEqual(
            heads(CHAIN, "rows par; f: i;"),
            [
                ("end", 0, None, (0,)), ("late", 0, 0, (0,)), ("lost", 0, 0, (0, 0)),
                ("moved", 0, 0, ()), ("spoilt", 0, 0, (0,)),
            ],
        )

    def test_temporary_arrays_have_no_ends(self):
        self.assertEqual(
            heads(CHAIN.replace("array", "temp"), "rows par; f: i;"),
            [
                ("late", 0, 0, (0,)), ("lost", 0, 0, (0, 0)), ("moved", 0, 0, ()),
                ("spoilt", 0, 0, (0,)),
            ],
        )

    def test_several_writers(self):
        text = "array s; temp b, c; s = f(b, s); b = g(); s = h(c);"
        self.assertEqual(
            heads(text, "rows; f:; g:; h:;"),
            [
                ("end", 0, None, (0,)), ("end", 0, None, (2,)),
                ("late", 0, 0, (1,)), ("lost", 0, 0, (1, 1)), ("moved", 0, 0, ()),
                ("spoilt", 0, 0, (1,)),
                ("late", 0, 1, (0,)), ("late", 0, 1, (2,)),
                ("lost", 0, 1, (0, 0)), ("lost", 0, 1, (0, 2)),
                ("lost", 0, 1, (2, 0)), ("lost", 0, 1, (2, 2)),
                ("moved", 0, 1, ()), ("spoilt", 0, 1, (0,)), ("spoilt", 0, 1, (2,)),
                ("end", 2, None, (0,)), ("end", 2, None, (2,)),
                ("moved", 2, 0, ()),
            ],
        )

    def test_no_statements(self):
        self.assertEqual(asks("params n; array a[];", "rows seq;"), ())

    def test_the_asks_are_asks(self):
        found = asks(CHAIN, "rows par; f: i;")
        self.assertIsInstance(found, tuple)
        self.assertTrue(all(isinstance(ask, Ask) for ask in found))

    def test_numbers_of_variables(self):
        for rows, text in ((0, "rows; f:; g:;"), (2, NESTED_ROWS)):
            for ask in asks(NESTED, text):
                loops = sum([(2, 1)[s] for s in (ask.statement,) + ask.others])
                people = 1 + len(ask.others)
                self.assertEqual(ask.variables, 2 + loops + people * rows)
                self.check_lengths(ask.clauses, ask.variables)
                for further, clauses in ask.hidden:
                    self.check_lengths(clauses, ask.variables + further)

    def check_lengths(self, clauses, variables):
        for clause in clauses:
            for alternative in clause:
                self.assertIsInstance(alternative, tuple)
                for constraint in alternative:
                    self.assertEqual(len(constraint[-1]), variables + 1)


class ChainTest(unittest.TestCase):
    """All asks of a program with one statement, written out."""

    def ask(self, at, kind, schedule="rows par; f: i;"):
        found = asks(CHAIN, schedule)[at]
        self.assertEqual(found.kind, kind)
        return found

    def person(self, over, i, t):
        return (over.ge(i, f"n - 1 - {i}", f"{i} - {t}", f"{t} - {i}"),)

    def test_end(self):
        ask = self.ask(0, "end")
        over = Over("n x z tx tz")
        self.assertEqual(ask.variables, 5)
        self.assertEqual(
            ask.clauses,
            (
                (over.ge("n - 1"),), self.person(over, "x", "tx"), self.person(over, "z", "tz"),
                (over.eq("z - x"),),
                (over.ge("tx - tz - 1"), over.ge("tz - tx - 1"), over.eq("tz - tx")),
                over.orders("x - z - 1", "z - x - 1"),
            ),
        )
        over = Over("n x z tx tz v")
        self.assertEqual(
            ask.hidden,
            ((1, ((over.ge("v", "n - 1 - v"),), (over.eq("v - x"),), over.orders("v - x - 1"))),),
        )

    def test_late(self):
        ask = self.ask(1, "late")
        over = Over("n x w tx tw")
        self.assertEqual(ask.variables, 5)
        self.assertEqual(
            ask.clauses,
            (
                (over.ge("n - 1"),), self.person(over, "x", "tx"), self.person(over, "w", "tw"),
                (over.eq("w - x + 1"),),
                over.orders("x - w - 1"),
                (over.ge("tx - tw - 1"), over.ge("tw - tx - 1"), over.eq("tw - tx")),
            ),
        )
        over = Over("n x w tx tw v")
        self.assertEqual(
            ask.hidden,
            (
                (
                    1,
                    (
                        (over.ge("v", "n - 1 - v"),), (over.eq("v - x + 1"),),
                        over.orders("v - w - 1"), over.orders("x - v - 1"),
                    ),
                ),
            ),
        )

    def test_late_in_sequence(self):
        over = Over("n x w tx tw")
        ask = self.ask(1, "late", "rows seq; f: i;")
        self.assertEqual(ask.clauses[5], (over.ge("tw - tx - 1"), over.eq("tw - tx")))

    def test_without_rows(self):
        over = Over("n x w")
        ask = self.ask(1, "late", "rows; f:;")
        self.assertEqual(ask.variables, 3)
        self.assertEqual(ask.clauses[1], (over.ge("x", "n - 1 - x"),))
        self.assertEqual(ask.clauses[5], ((),))

    def test_lost(self):
        ask = self.ask(2, "lost")
        over = Over("n x w z tx tw tz")
        self.assertEqual(ask.variables, 7)
        self.assertEqual(
            ask.clauses,
            (
                (over.ge("n - 1"),), self.person(over, "x", "tx"), self.person(over, "w", "tw"),
                self.person(over, "z", "tz"),
                (over.eq("w - x + 1"),),
                over.orders("x - w - 1"),
                (over.eq("z - x + 1"),),
                (over.ge("tw - tz - 1"), over.ge("tz - tw - 1"), over.eq("tz - tw")),
                (over.ge("tz - tx - 1"), over.ge("tx - tz - 1"), over.eq("tx - tz")),
                over.orders("w - z - 1", "z - w - 1"),
                over.orders("x - z - 1", "z - x - 1"),
            ),
        )
        over = Over("n x w z tx tw tz v")
        self.assertEqual(
            ask.hidden,
            (
                (
                    1,
                    (
                        (over.ge("v", "n - 1 - v"),), (over.eq("v - x + 1"),),
                        over.orders("v - w - 1"), over.orders("x - v - 1"),
                    ),
                ),
            ),
        )

    def test_moved(self):
        ask = self.ask(3, "moved")
        over = Over("n x tx")
        self.assertEqual(ask.variables, 3)
        self.assertEqual(ask.clauses, ((over.ge("n - 1"),), self.person(over, "x", "tx"), ()))
        over = Over("n x tx v")
        self.assertEqual(
            ask.hidden,
            ((1, ((over.ge("v", "n - 1 - v"),), (over.eq("v - x + 1"),), over.orders("x - v - 1"))),),
        )

    def test_spoilt(self):
        ask = self.ask(4, "spoilt")
        over = Over("n x z tx tz")
        self.assertEqual(
            ask.clauses,
            (
                (over.ge("n - 1"),), self.person(over, "x", "tx"), self.person(over, "z", "tz"),
                (over.eq("z - x + 1"),),
                (over.ge("tz - tx - 1"), over.ge("tx - tz - 1"), over.eq("tx - tz")),
                over.orders("x - z - 1", "z - x - 1"),
            ),
        )
        over = Over("n x z tx tz v")
        self.assertEqual(
            ask.hidden,
            ((1, ((over.ge("v", "n - 1 - v"),), (over.eq("v - x + 1"),), over.orders("x - v - 1"))),),
        )


class NestedTest(unittest.TestCase):
    """Asks of two statements with loops, conditions, floors and a folding, written out."""

    FOLDING = ((2,),)

    def ask(self, *head):
        for ask in asks(NESTED, NESTED_ROWS, self.FOLDING):
            if (ask.kind, ask.statement, ask.read, ask.others) == head:
                return ask
        self.fail("no such ask")

    def loops_of_f(self, over, name):
        i, j = name + "i", name + "j"
        return (
            over.ge(i, f"n - {i}", f"{j} - {i}", f"{j} - 1", f"n - {j}", f"m - {j}", f"9 - {j}")
            + over.div(3, f"{i} + {j}") + over.eq(f"{i} - {j}")
        )

    def person_f(self, over, name):
        i, j, t, u = [name + part for part in ("i", "j", "t", "u")]
        times = over.ge(
            f"{i} + {j} - 2 * {t}", f"2 * {t} - {i} - {j} + 1", f"n - {j} - {u}", f"{u} - n + {j}"
        )
        return (self.loops_of_f(over, name) + times,)

    def person_g(self, over, name):
        i, t, u = [name + part for part in ("i", "t", "u")]
        return (over.ge(i, f"n - {i}", f"n + {i} - {t}", f"{t} - n - {i}", f"3 - {u}", f"{u} - 3"),)

    def context(self, over):
        return (over.ge("n - 1") + over.div(2, "m"),)

    def not_before(self, over, one, other):
        same = over.eq(f"{one}t - {other}t")
        return (
            over.ge(f"{one}t - {other}t - 1"), same + over.ge(f"{other}u - {one}u - 1"),
            same + over.ge(f"{one}u - {other}u - 1"), same + over.eq(f"{one}u - {other}u"),
        )

    def test_lost(self):
        ask = self.ask("lost", 1, 0, (0, 0))
        names = "n m xi wi wj zi zj xt xu wt wu zt zu"
        over = Over(names)
        self.assertEqual(ask.variables, 13)
        self.assertEqual(
            ask.clauses,
            (
                self.context(over), self.person_g(over, "x"), self.person_f(over, "w"),
                self.person_f(over, "z"),
                (over.eq("wi - xi", "wj - n"),),
                (over.ge("xi - wi - 1"), over.eq("wi - xi")),
                (over.div(2, "zi - xi") + over.eq("zj - n"),),
                self.not_before(over, "z", "w"), self.not_before(over, "x", "z"),
                over.orders("wi - zi - 1", "zi - wi - 1", "wj - zj - 1", "zj - wj - 1"),
            ),
        )
        over = Over(names + " vi vj")
        self.assertEqual(
            ask.hidden,
            (
                (
                    2,
                    (
                        (self.loops_of_f(over, "v"),), (over.eq("vi - xi", "vj - n"),),
                        (over.ge("vi - wi - 1"), over.eq("wi - vi") + over.ge("vj - wj - 1")),
                        (over.ge("xi - vi - 1"), over.eq("vi - xi")),
                    ),
                ),
            ),
        )

    def test_late_of_a_greater_statement(self):
        ask = self.ask("late", 0, 0, (1,))
        over = Over("n m xi xj wi xt xu wt wu")
        self.assertEqual(
            ask.clauses,
            (
                self.context(over), self.person_f(over, "x"), self.person_g(over, "w"),
                (over.eq("wi - xj"),), over.orders("xi - wi - 1"), self.not_before(over, "w", "x"),
            ),
        )
        over = Over("n m xi xj wi xt xu wt wu vi")
        self.assertEqual(
            ask.hidden,
            (
                (
                    1,
                    (
                        (over.ge("vi", "n - vi"),), (over.eq("vi - xj"),),
                        over.orders("vi - wi - 1"), over.orders("xi - vi - 1"),
                    ),
                ),
            ),
        )

    def test_moved(self):
        ask = self.ask("moved", 1, 0, ())
        over = Over("n m xi xt xu")
        self.assertEqual(
            ask.clauses, (self.context(over), self.person_g(over, "x"), over.orders("-xi - 1", "xi - 2"))
        )
        over = Over("n m xi xt xu vi vj")
        self.assertEqual(
            ask.hidden,
            (
                (
                    2,
                    (
                        (self.loops_of_f(over, "v"),), (over.eq("vi - xi", "vj - n"),),
                        (over.ge("xi - vi - 1"), over.eq("vi - xi")),
                    ),
                ),
            ),
        )

    def test_moved_in_two_dimensions(self):
        over = Over("n m xi xt xu")
        for folding, texts in (
            (((2, 7),), ("-xi - 1", "xi - 2", "-n - 1", "n - 7")), (((0, 7),), ("-n - 1", "n - 7")),
            (((0, 0),), ()), ((), ()), (((16, 1),), ("-xi - 1", "xi - 16", "-n - 1", "n - 1")),
        ):
            for ask in asks(NESTED, NESTED_ROWS, folding):
                if ask.kind == "moved" and (ask.statement, ask.read) == (1, 0):
                    self.assertEqual(ask.clauses[2], over.orders(*texts))
                elif ask.kind == "moved":
                    self.assertEqual(ask.clauses[2], ())

    def test_spoilt(self):
        ask = self.ask("spoilt", 1, 0, (0,))
        over = Over("n m xi zi zj xt xu zt zu")
        self.assertEqual(
            ask.clauses,
            (
                self.context(over), self.person_g(over, "x"), self.person_f(over, "z"),
                (over.div(2, "zi - xi") + over.eq("zj - n"),), self.not_before(over, "x", "z"),
            ),
        )

    def test_end(self):
        ask = self.ask("end", 1, None, (1,))
        over = Over("n m xi zi xt xu zt zu")
        self.assertEqual(
            ask.clauses,
            (
                self.context(over), self.person_g(over, "x"), self.person_g(over, "z"),
                (over.eq("zi - xi"),), self.not_before(over, "z", "x"),
                over.orders("xi - zi - 1", "zi - xi - 1"),
            ),
        )
        over = Over("n m xi zi xt xu zt zu vi")
        self.assertEqual(
            ask.hidden,
            ((1, ((over.ge("vi", "n - vi"),), (over.eq("vi - xi"),), over.orders("vi - xi - 1"))),),
        )

    def test_same_places_in_two_dimensions(self):
        over = Over("n m xi zi zj xt xu zt zu")
        for folding, expected in (
            (((0, 3),), over.eq("zi - xi") + over.div(3, "zj - n")), ((), over.eq("zi - xi", "zj - n")),
            (((4, 1),), over.div(4, "zi - xi") + over.div(1, "zj - n")),
        ):
            for ask in asks(NESTED, NESTED_ROWS, folding):
                if (ask.kind, ask.statement, ask.read) == ("spoilt", 1, 0):
                    self.assertEqual(ask.clauses[3], (expected,))


class SmallestTest(unittest.TestCase):
    def test_no_parameters_no_loops_no_dimensions(self):
        end, late, lost, moved, spoilt = asks("array s; s = f(s);", "rows; f:;")
        self.assertEqual(end.variables, 0)
        # An instance is not apart from itself, and is not earlier than itself: no alternatives.
        self.assertEqual(end.clauses, (((),), ((),), ((),), ((),), ((),), ()))
        self.assertEqual(end.hidden, ((0, (((),), ((),), ())),))
        self.assertEqual(late.clauses, (((),), ((),), ((),), ((),), (), ((),)))
        self.assertEqual(late.hidden, ((0, (((),), ((),), (), ())),))
        self.assertEqual(lost.clauses, (((),),) * 5 + ((),) + (((),),) * 3 + ((), ()))
        self.assertEqual(moved.clauses, (((),), ((),), ()))
        self.assertEqual(spoilt.clauses, (((),),) * 5 + ((),))

    def test_different_statements_without_loops(self):
        found = asks("array s; s = f(); s = g(s);", "rows; f:; g:;")
        kinds = {(ask.kind, ask.statement, ask.others): ask for ask in found}
        self.assertEqual(kinds["late", 1, (0,)].clauses, (((),),) * 6)
        self.assertEqual(kinds["late", 1, (1,)].clauses, (((),),) * 4 + ((), ((),)))
        self.assertEqual(kinds["end", 0, (1,)].clauses, (((),),) * 5)
        self.assertEqual(kinds["end", 0, (1,)].hidden[1], (0, (((),), ((),), ((),))))
        self.assertEqual(kinds["end", 1, (0,)].hidden[0], (0, (((),), ((),), ())))

    def test_hidden_entries_of_what_nobody_writes(self):
        found = asks("temp b; array s; s = f(b);", "rows; f:;")
        self.assertEqual([ask.hidden for ask in found if ask.kind == "moved"], [()])

    def test_loops_of_one_name_are_not_shared(self):
        text = "array a[]; for i = 0 to 3 { a[i] = f(); } for i = 0 to 3 { a[i] = g(a[i]); }"
        late = [ask for ask in asks(text, "rows; f:; g:;") if ask.kind == "late"]
        self.assertEqual([ask.clauses[4] for ask in late], [((),), ((("ge", (1, -1, -1)),),)])


class ClausesTest(unittest.TestCase):
    def test_alternatives(self):
        low, high = ("ge", (1, -3)), ("ge", (-1, 9))
        odd = ("div", 2, (1, 1))
        for x in range(-2, 12):
            self.assertIs(clauses_hold((((low, high),),), (x,)), 3 <= x <= 9)
            self.assertIs(clauses_hold((((low,),), ((high,),)), (x,)), 3 <= x <= 9)
            self.assertIs(clauses_hold((((low, odd), (("eq", (1, 0)),)),), (x,)), x == 0 or (x >= 3 and x % 2 == 1))
            self.assertIs(clauses_hold((((low,), (high,)), ((odd,),)), (x,)), x % 2 == 1)

    def test_nothing(self):
        self.assertIs(clauses_hold((), ()), True)
        self.assertIs(clauses_hold((((),),), (4,)), True)
        self.assertIs(clauses_hold(((),), (4,)), False)
        self.assertIs(clauses_hold((((),), ()), (4,)), False)
        self.assertIs(clauses_hold((((("ge", (1, -5)),), ()),), (4,)), True)


class BadFoldingsTest(unittest.TestCase):
    def test_they_raise(self):
        program = Program.parse(NESTED)
        schedule = Schedule.parse(NESTED_ROWS, program)
        for folding in (((), (1,)), ((17,),), ((1, -1),), ((1, 1, 1),), ((), (), ())):
            with self.assertRaises(BadFolding):
                asks_of(program, schedule, folding=folding)
        program = Program.parse("temp a[];")
        with self.assertRaises(BadFolding):
            asks_of(program, Schedule.parse("rows;", program), folding=((99,),))

    def test_those_of_faults(self):
        nest, schedule = made(CHAIN, (3,), "rows par; f: i;")
        with self.assertRaises(BadFolding):
            point_of_fault(nest, schedule, Faults(nest, schedule).first, folding=((1,),))


class PointsOfFaultsTest(unittest.TestCase):
    def point(self, text, sizes, schedule, fault, folding=()):
        nest, schedule = made(text, sizes, schedule)
        self.assertIn(fault, Faults(nest, schedule, folding=folding))
        return point_of_fault(nest, schedule, fault, folding=folding)

    def test_each_kind(self):
        self.assertEqual(
            self.point(CHAIN, (3,), "rows par; f: 2 * i;", ("early", (0, (2,)), 0, (0, (1,)))),
            (1, (3, 2, 1, 4, 2)),
        )
        text = "params n; array s; for i = 0 to n { s = f(); }"
        self.assertEqual(
            self.point(text, (2,), "rows par, seq; f: i, 7 - i;", ("ending", (0, (2,)), None, (0, (1,)))),
            (0, (2, 2, 1, 2, 5, 1, 6)),
        )
        text = "params n; temp b[]; array a; a = f(b[n]);"
        self.assertEqual(
            self.point(text, (4,), "rows seq; f: 3;", ("elsewhere", (0, ()), 0, None), ((3,),)),
            (1, (4, 3)),
        )
        text = "params n; array a[]; for i = 0 to n { a[i] = f(a[i + 1]); }"
        self.assertEqual(
            self.point(text, (2,), "rows par; f: -i;", ("overwritten", (0, (0,)), 0, (0, (1,)))),
            (4, (2, 0, 1, 0, -1)),
        )
        text = "params n; temp b[]; array a[]; for i = 0 to n { b[i] = f(); a[i] = g(b[i]); }"
        self.assertEqual(
            self.point(
                text, (2,), "rows seq; f: 0; g: 1;", ("overwritten", (1, (2,)), 0, (0, (0,))), ((2,),)
            ),
            (2, (2, 2, 2, 0, 1, 0, 0)),
        )

    def test_the_statements_of_the_others(self):
        text = "array s; s = f(); s = g(); s = h(s);"
        nest, schedule = made(text, (), "rows seq; f: 1; g: 2; h: 2;")
        found = asks(text, "rows seq; f: 1; g: 2; h: 2;")
        seen = []
        for fault in Faults(nest, schedule):
            index, point = point_of_fault(nest, schedule, fault)
            ask = found[index]
            seen.append((ask.kind, ask.statement, ask.others, point))
        self.assertEqual(
            seen,
            [
                ("end", 2, (1,), (2, 2)), ("late", 2, (1,), (2, 2)),
            ],
        )
        nest, schedule = made(text, (), "rows seq; f: 4; g: 4; h: 4;")
        self.assertEqual(
            [point_of_fault(nest, schedule, fault) for fault in Faults(nest, schedule)],
            [(6, (4, 4)), (7, (4, 4)), (10, (4, 4)), (15, (4, 4, 4))],
        )


def is_point(ask, point, candidates):
    """Point 51, with some candidates for the further variables of each hidden entry."""
    if not clauses_hold(ask.clauses, point):
        return False
    for (further, clauses), values in zip(ask.hidden, candidates):
        assert all(len(value) == further for value in values)
        if any(clauses_hold(clauses, point + value) for value in values):
            return False
    return True


def points_near(chance, nest, s):
    """The points of the instances of a statement, and some beside them."""
    points = [point for number, point in nest if number == s]
    width = len(nest.program.statements[s].loops)
    beside = [tuple([value + chance.choice([-1, 0, 1]) for value in point]) for point in points]
    return list(dict.fromkeys(points + beside + [(0,) * width, (1,) * width]))


class AllPointsTest(unittest.TestCase):
    """Points 50 and 57: the points of the asks are those of the faults."""

    def test_small_programs(self):
        chance = random.Random(50)
        kinds = []
        for nest, schedule, folding in random_cases(50, 250, 4):
            faults = Faults(nest, schedule, folding=folding)
            expected = [point_of_fault(nest, schedule, fault, folding=folding) for fault in faults]
            self.assertEqual(len(expected), len(set(expected)))
            found = []
            for index, ask in enumerate(asks_of(nest.program, schedule, folding=folding)):
                for point in self.points(chance, nest, schedule, ask):
                    found.append((index, point))
                    kinds.append(ask.kind)
            self.assertEqual(sorted(found), sorted(expected), (nest.program.text, schedule.text))
        for kind in ("end", "late", "lost", "moved", "spoilt"):
            self.assertGreater(kinds.count(kind), 10, kind)

    def points(self, chance, nest, schedule, ask):
        """The points of an ask at the sizes of a nest, with people near its instances."""
        people = (ask.statement,) + ask.others
        statements = nest.program.statements
        first = statements[ask.statement]
        array = (first.write if ask.read is None else first.reads[ask.read])[0]
        writers = [s for s, statement in enumerate(statements) if statement.write[0] == array]
        candidates = [points_near(chance, nest, s) for s in writers]
        found = []
        for values in product(*[points_near(chance, nest, s) for s in people]):
            point = nest.sizes + sum(values, ())
            for s, value in zip(people, values):
                point += time_of(schedule, nest.sizes, (s, value))
            if is_point(ask, point, candidates):
                found.append(point)
        return found

    def test_times_are_those_of_the_rows(self):
        changed = 0
        for nest, schedule, folding in random_cases(51, 60, 6):
            found = asks_of(nest.program, schedule, folding=folding)
            for fault in list(Faults(nest, schedule, folding=folding))[:5]:
                index, point = point_of_fault(nest, schedule, fault, folding=folding)
                ask = found[index]
                self.assertEqual(len(point), ask.variables)
                self.assertTrue(clauses_hold(ask.clauses, point))
                times = len(schedule.marks) * (1 + len(ask.others))
                for at in range(ask.variables - times, ask.variables):
                    for step in (-1, 1):
                        other = point[:at] + (point[at] + step,) + point[at + 1:]
                        self.assertFalse(clauses_hold(ask.clauses, other))
                        changed += 1
        self.assertGreater(changed, 200)

    def test_asks_do_not_depend_on_sizes_or_each_other(self):
        chance = random.Random(52)
        for _ in range(30):
            program = Program.parse(random_program(chance))
            schedule = Schedule.parse(random_schedule(chance, program), program)
            folding = random_folding(chance, program)
            one, other = [asks_of(program, schedule, folding=folding) for _ in range(2)]
            self.assertEqual([ask.clauses for ask in one], [ask.clauses for ask in other])
            self.assertEqual([ask.hidden for ask in one], [ask.hidden for ask in other])


if __name__ == "__main__":
    unittest.main()
