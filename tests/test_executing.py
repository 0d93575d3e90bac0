"""Points 68 and 69: how code is executed, and the paths."""

import random
import unittest

from loopworks.codes import Code
from loopworks.errors import TooMany
from loopworks.executing import code_order, executed, is_path_before
from loopworks.programs import Program
from tests.test_codes import random_code

PROGRAM = Program.parse(
    "params n, m; array a[], s; s = f(); for i = 0 to n { a[i] = g(); for j = 0 to n { a[i] = h(); } }"
)


def read(text):
    return Code.parse(text, PROGRAM)


def values_of(lower, upper, sizes):
    """The values that one loop takes."""
    return [point[0] for _, point in code_order(read(f"for t1 = {lower} to {upper} {{ g(t1); }}"), sizes)]


class ValuesTest(unittest.TestCase):
    def test_rounding(self):
        for n in range(-9, 10):
            for d in (1, 2, 3, 7):
                first = min([k for k in range(-20, 20) if k * d >= n])
                last = max([k for k in range(-20, 20) if k * d <= n])
                self.assertEqual(values_of(f"ceil(n, {d})", 9, (n, 0)), list(range(first, 10)))
                self.assertEqual(values_of(-9, f"floor(n, {d})", (n, 0)), list(range(-9, last + 1)))
        self.assertEqual(values_of("ceil(-7, 2)", "floor(-3, 2)", (0, 0)), [-3, -2])
        self.assertEqual(values_of("ceil(7, 2)", "floor(15, 2)", (0, 0)), [4, 5, 6, 7])

    def test_several_bounds(self):
        self.assertEqual(values_of("max(n, 3, m)", "min(9, n + 5, m + 4)", (1, 2)), [3, 4, 5, 6])
        self.assertEqual(values_of("max(n, ceil(m, 2))", "min(floor(n, 2), m)", (7, 13)), [])
        self.assertEqual(values_of("max(n, ceil(m, 2))", "min(floor(19, 2), m)", (3, 9)), [5, 6, 7, 8, 9])

    def test_several_lists(self):
        # The least of the greatest, and the greatest of the least.
        self.assertEqual(values_of("min(max(1, 4), max(2, 3))", 5, (0, 0)), [3, 4, 5])
        self.assertEqual(values_of(5, "max(min(9, 6), min(7, 8))", (0, 0)), [5, 6, 7])
        self.assertEqual(values_of("min(n, m)", "max(n, m)", (4, 2)), [2, 3, 4])
        self.assertEqual(values_of("min(n, max(m, 7), 9)", "max(min(n, 3), m)", (4, 2)), [])

    def test_loops_that_take_nothing(self):
        self.assertEqual(values_of(1, 0, (0, 0)), [])
        self.assertEqual(values_of("n", "m", (5, -50)), [])
        self.assertEqual(values_of(3, 3, (0, 0)), [3])
        self.assertEqual(executed(read("for t1 = 1 to 0 { for t2 = t1 to 10000000 { f(); } }"), (0, 0)), [])

    def test_bounds_of_inner_loops(self):
        code = read("for t1 = n to m { for t2 = 2 * t1 to t1 + m { h(t2, t1 - n); } }")
        self.assertEqual(
            code_order(code, (1, 3)),
            [(2, (j, i - 1)) for i in range(1, 4) for j in range(2 * i, i + 4)],
        )

    def test_conditions(self):
        code = read("for t1 = 0 to 9 { if 3 divides t1 + n and t1 >= 2 { g(t1); } if t1 == m { f(); } }")
        self.assertEqual(
            code_order(code, (1, 4)), [(1, (2,)), (0, ()), (1, (5,)), (1, (8,))]
        )
        self.assertEqual(code_order(read("if n >= m { f(); }"), (1, 2)), [])
        self.assertEqual(code_order(read("{ f(); }"), (1, 2)), [(0, ())])

    def test_each_as_often_as_it_is_executed(self):
        code = read("f(); for t1 = 1 to 3 { f(); g(7); } || f();")
        self.assertEqual(code_order(code, (0, 0)).count((0, ())), 5)
        self.assertEqual(code_order(code, (0, 0)).count((1, (7,))), 3)

    def test_no_items(self):
        self.assertEqual(executed(read(""), (0, 0)), [])
        self.assertEqual(code_order(read(""), (0, 0)), [])


class PathsTest(unittest.TestCase):
    def test_written_out(self):
        self.assertEqual(executed(read("f();"), (0, 0)), [((0, ()), ((True, 0),))])
        self.assertEqual(
            executed(read("f(); || g(n); f();"), (4, 0)),
            [
                ((0, ()), ((False, 0),)), ((1, (4,)), ((False, 1), (True, 0))),
                ((0, ()), ((False, 1), (True, 1), (True, 0))),
            ],
        )

    def test_loops_and_blocks(self):
        code = read("{ f(); || parfor t1 = 4 to 5 { g(t1); f(); } } for t1 = -1 to -1 { f(); }")
        self.assertEqual(
            executed(code, (0, 0)),
            [
                ((0, ()), ((True, 0), (False, 0))),
                ((1, (4,)), ((True, 0), (False, 1), (True, 0), (False, 4), (True, 0))),
                ((0, ()), ((True, 0), (False, 1), (True, 0), (False, 4), (True, 1), (True, 0))),
                ((1, (5,)), ((True, 0), (False, 1), (True, 0), (False, 5), (True, 0))),
                ((0, ()), ((True, 0), (False, 1), (True, 0), (False, 5), (True, 1), (True, 0))),
                ((0, ()), ((True, 1), (True, 0), (True, -1), (True, 0))),
            ],
        )

    def test_conditionals_that_do_not_hold_are_counted(self):
        code = read("if n >= 1 { f(); } || if n >= 2 { f(); } f();")
        self.assertEqual(
            executed(code, (0, 0)), [((0, ()), ((False, 1), (True, 1), (True, 0)))]
        )

    def test_is_path_before(self):
        seq, par = True, False
        for one, other, before, behind in (
            (((seq, 0),), ((seq, 1), (seq, 0)), True, False),
            (((par, 0),), ((par, 1), (seq, 0)), False, False),
            (((seq, 0), (seq, 3), (seq, 0)), ((seq, 0), (seq, 7), (seq, 0)), True, False),
            (((seq, 0), (par, 3), (seq, 0)), ((seq, 0), (par, 7), (seq, 0)), False, False),
            (((seq, 0), (par, 3), (seq, 0)), ((seq, 0), (par, 3), (seq, 1), (seq, 0)), True, False),
            (((seq, 0), (par, 3), (seq, 5)), ((seq, 0), (par, 4), (seq, 9)), False, False),
            (((par, 1), (seq, 0), (seq, -7)), ((par, 1), (seq, 0), (seq, -9)), False, True),
            (((par, 1), (seq, 0)), ((par, 1), (seq, 0)), False, False),
            ((), (), False, False),
        ):
            self.assertIs(is_path_before(one, other), before)
            self.assertIs(is_path_before(other, one), behind)

    def test_items_of_a_mixed_body(self):
        # The first is in parallel with all behind it; the second is in sequence with the third.
        paths = [path for _, path in executed(read("f(); || f(); f();"), (0, 0))]
        self.assertEqual(
            [(a, b) for a in range(3) for b in range(3) if is_path_before(paths[a], paths[b])], [(1, 2)]
        )
        paths = [path for _, path in executed(read("f(); f(); || f();"), (0, 0))]
        self.assertEqual(
            [(a, b) for a in range(3) for b in range(3) if is_path_before(paths[a], paths[b])],
            [(0, 1), (0, 2)],
        )

    def test_an_order(self):
        chance = random.Random(69)
        many = 0
        while many < 60:
            code = read(random_code(chance))
            try:
                found = executed(code, (chance.randrange(3), chance.randrange(3)))
            except TooMany:
                continue
            if not 2 <= len(found) <= 40:
                continue
            many += 1
            paths = [path for _, path in found]
            self.assertEqual(len(set(paths)), len(paths))
            for at, one in enumerate(paths):
                for number, other in enumerate(paths):
                    if is_path_before(one, other):
                        self.assertLess(at, number)
                        self.assertFalse(is_path_before(other, one))


class LimitsTest(unittest.TestCase):
    def check(self, text, raises):
        code = read(text)
        for function in (executed, code_order):
            if raises:
                with self.assertRaises(TooMany):
                    function(code, (0, 0))
            else:
                function(code, (0, 0))

    def test_one_loop(self):
        self.check("for t1 = 1 to 10000 { f(); }", False)
        self.check("for t1 = 0 to 10000 { f(); }", True)
        self.check("for t1 = 1 to 999999999 { f(); }", True)
        self.check("parfor t1 = 1 to 10001 { if n > m { f(); } }", True)
        self.check("if n > m { for t1 = 1 to 10001 { f(); } }", False)

    def test_all_loops_together(self):
        # 100 + 100 * 99 values, and 100 + 100 * 100.
        self.check("for t1 = 1 to 100 { parfor t2 = 1 to 99 { f(); } }", False)
        self.check("for t1 = 1 to 100 { parfor t2 = 1 to 100 { f(); } }", True)
        self.check("for t1 = 1 to 5000 { f(); } || for t1 = 1 to 5000 { f(); }", False)
        self.check("for t1 = 1 to 5000 { f(); } || for t1 = 1 to 5001 { f(); }", True)
        self.check("for t1 = 1 to 5000 { f(); } for t1 = 1 to 0 { f(); } for t1 = 1 to 5000 { f(); }", False)
        self.check("for t1 = 1 to 5000 { f(); } for t1 = 9 to 0 { f(); } for t1 = 1 to 5001 { f(); }", True)
        self.check("for t1 = 1 to 5000 { if n > m { f(); } } for t1 = 1 to 5001 { f(); }", True)

    def test_statements_are_not_counted(self):
        self.check("for t1 = 1 to 10000 { f(); f(); f(); }", False)
        self.assertEqual(len(executed(read("for t1 = 1 to 10000 { f(); f(); f(); }"), (0, 0))), 30000)

    def test_the_same_again(self):
        code = read("for t1 = 1 to 9000 { f(); }")
        self.assertEqual(executed(code, (0, 0)), executed(code, (0, 0)))
        executed(code, (0, 0)).clear()
        self.assertEqual(len(executed(code, (0, 0))), 9000)


if __name__ == "__main__":
    unittest.main()
