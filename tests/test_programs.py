"""Points 13 to 16 and 19: what is read of a program, and its normal text."""

import random
import unittest

from loopworks.programs import Program, Statement
from loopworks.signs import read_signs
from tests.random_programs import random_program

WHOLE = """
params n, m;
context n >= 1 and 2 divides m;
array a[], s;
temp b[,];
s = start();
for i = max(0, m) to n - 1 {
  if i == 3 and m > 2 {
    for j = i to min(n, 2 * m, 7) {
      b[i, j - 1] = body(b[i - 1, j], a[j]);
    }
  }
  a[i] = last(s);
}
"""

NORMAL = """params n, m;
context n - 1 >= 0 and 2 divides m;
array a[];
array s;
temp b[,];
s = start();
for i = max(0, m) to n - 1 {
  if i - 3 == 0 and m - 3 >= 0 {
    for j = i to min(n, 2 * m, 7) {
      b[i, j - 1] = body(b[i - 1, j], a[j]);
    }
  }
  a[i] = last(s);
}
"""


def described(program):
    """All that is to be seen of a program, but for its text."""
    return (
        program.parameters, program.context, program.arrays, program.loops,
        [(s.name, s.loops, s.conditions, s.write, s.reads) for s in program.statements],
        [program.names_of(number) for number in range(len(program.statements))],
    )


class AttributesTest(unittest.TestCase):
    def test_the_whole(self):
        program = Program.parse(WHOLE)
        self.assertEqual(program.parameters, ("n", "m"))
        self.assertEqual(program.context, (("ge", (1, 0, -1)), ("div", 2, (0, 1, 0))))
        self.assertEqual(
            program.arrays, (("a", 1, False), ("s", 0, False), ("b", 2, True))
        )
        self.assertEqual(
            program.loops,
            (
                ("i", ((0, 0, 0), (0, 1, 0)), ((1, 0, -1),), None),
                ("j", ((0, 0, 1, 0),), ((1, 0, 0, 0), (0, 2, 0, 0), (0, 0, 0, 7)), 0),
            ),
        )

    def test_the_statements_of_the_whole(self):
        start, body, last = Program.parse(WHOLE).statements
        self.assertEqual((start.name, start.loops, start.conditions), ("start", (), ()))
        self.assertEqual((start.write, start.reads), ((1, ()), ()))
        self.assertEqual((body.name, body.loops), ("body", (0, 1)))
        self.assertEqual(
            body.conditions, (("eq", (0, 0, 1, 0, -3)), ("ge", (0, 1, 0, 0, -3)))
        )
        self.assertEqual(body.write, (2, ((0, 0, 1, 0, 0), (0, 0, 0, 1, -1))))
        self.assertEqual(
            body.reads, ((2, ((0, 0, 1, 0, -1), (0, 0, 0, 1, 0))), (0, ((0, 0, 0, 1, 0),)))
        )
        self.assertEqual((last.name, last.loops, last.conditions), ("last", (0,), ()))
        self.assertEqual((last.write, last.reads), ((0, ((0, 0, 1, 0),)), ((1, ()),)))

    def test_names_of(self):
        program = Program.parse(WHOLE)
        self.assertEqual(program.names_of(0), ("n", "m"))
        self.assertEqual(program.names_of(1), ("n", "m", "i", "j"))
        self.assertEqual(program.names_of(2), ("n", "m", "i"))

    def test_kinds(self):
        program = Program.parse(WHOLE)
        for value in (
            program.parameters, program.context, program.arrays, program.loops, program.statements
        ):
            self.assertIs(type(value), tuple)
        for _, dimensions, temporary in program.arrays:
            self.assertIs(type(temporary), bool)
            self.assertIs(type(dimensions), int)
        for statement in program.statements:
            self.assertIsInstance(statement, Statement)
            for value in (statement.loops, statement.conditions, statement.reads):
                self.assertIs(type(value), tuple)

    def test_the_empty_program(self):
        for text in ("", " \n\t"):
            program = Program.parse(text)
            self.assertEqual(described(program), ((), (), (), (), [], []))
            self.assertEqual(program.text, "")

    def test_heads_without_items(self):
        program = Program.parse("array a, b[,];")
        self.assertEqual(program.arrays, (("a", 0, False), ("b", 2, False)))
        self.assertEqual(Program.parse("params n;").parameters, ("n",))
        self.assertEqual(Program.parse("context 1 >= 2;").context, (("ge", (-1,)),))

    def test_declarations_in_any_order(self):
        program = Program.parse("temp c[]; array a; temp d[,], e;")
        self.assertEqual(
            program.arrays,
            (("c", 1, True), ("a", 0, False), ("d", 2, True), ("e", 0, True)),
        )

    def test_numbers_of_nested_loops(self):
        program = Program.parse(
            "array a[]; for i = 0 to 1 { for j = 0 to 2 { a[j] = f(); } for k = 0 to i {"
            " a[k] = g(); } } for i = 0 to 4 { a[i] = h(); }"
        )
        self.assertEqual(
            program.loops,
            (
                ("i", ((0,),), ((1,),), None), ("j", ((0, 0),), ((0, 2),), 0),
                ("k", ((0, 0),), ((1, 0),), 0), ("i", ((0,),), ((4,),), None),
            ),
        )
        self.assertEqual([s.loops for s in program.statements], [(0, 1), (0, 2), (3,)])

    def test_three_loops(self):
        program = Program.parse(
            "params n; array a[]; for i = 0 to n { for j = i to n { for k = j to i + n {"
            " a[k] = f(); } } }"
        )
        self.assertEqual(
            [loop[1:] for loop in program.loops],
            [
                (((0, 0),), ((1, 0),), None),
                (((0, 1, 0),), ((1, 0, 0),), 0),
                (((0, 0, 1, 0),), ((1, 1, 0, 0),), 1),
            ],
        )
        self.assertEqual(program.statements[0].loops, (0, 1, 2))
        self.assertEqual(program.names_of(0), ("n", "i", "j", "k"))

    def test_conditionals_around_and_within_loops(self):
        program = Program.parse(
            "params n; array a; if n == 1 { for i = 0 to n { if i > 2 { if 2 divides i {"
            " a = f(); } } a = g(); } a = h(); }"
        )
        self.assertEqual(
            [s.conditions for s in program.statements],
            [
                (("eq", (1, 0, -1)), ("ge", (0, 1, -3)), ("div", 2, (0, 1, 0))),
                (("eq", (1, 0, -1)),),
                (("eq", (1, -1)),),
            ],
        )
        self.assertEqual(program.loops[0][3], None)

    def test_bounds_in_brackets(self):
        program = Program.parse(
            "params n; array a; for i = max(1) to min(n) { for j = max(i, 1, n) to min(2, 3) {"
            " a = f(); } }"
        )
        self.assertEqual(program.loops[0], ("i", ((0, 1),), ((1, 0),), None))
        self.assertEqual(
            program.loops[1],
            ("j", ((0, 1, 0), (0, 0, 1), (1, 0, 0)), ((0, 0, 2), (0, 0, 3)), 0),
        )

    def test_reads(self):
        program = Program.parse("array a, b[]; a = f(); a = g(a); b[1] = h(b[2], a);")
        self.assertEqual(
            [s.reads for s in program.statements],
            [(), ((0, ()),), ((1, ((2,),)), (0, ()))],
        )


class NamesTest(unittest.TestCase):
    def test_names_of_different_sorts_may_be_the_same(self):
        program = Program.parse(
            "params n; array n[], i; for i = 0 to n { n[n] = n(i, n[i]); i = i(); }"
        )
        self.assertEqual(program.arrays, (("n", 1, False), ("i", 0, False)))
        self.assertEqual([s.name for s in program.statements], ["n", "i"])
        self.assertEqual(program.statements[0].reads, ((1, ()), (0, ((0, 1, 0),))))

    def test_loops_behind_one_another_may_have_the_same_name(self):
        program = Program.parse(
            "array a; for i = 0 to 1 { a = f(); } for i = 0 to 1 { a = g(); }"
        )
        self.assertEqual([loop[0] for loop in program.loops], ["i", "i"])
        program = Program.parse(
            "array a; for k = 0 to 1 { for i = 0 to 1 { a = f(); } for i = k to 1 { a = g(); } }"
        )
        self.assertEqual(program.names_of(1), ("k", "i"))

    def test_names_that_look_like_iterators(self):
        for name in ("t", "tt1", "t1a", "t_1", "T1", "t1_", "to1", "fors", "For"):
            with self.subTest(name):
                self.assertEqual(Program.parse(f"params {name};").parameters, (name,))
                program = Program.parse(f"array a; for {name} = 0 to 1 {{ a = f(); }}")
                self.assertEqual(program.loops[0][0], name)

    def test_arrays_and_statements_may_have_the_names_of_iterators(self):
        program = Program.parse("array t1, t22[]; t1 = t1(t22[0]); t22[5] = t007();")
        self.assertEqual([array[0] for array in program.arrays], ["t1", "t22"])
        self.assertEqual([s.name for s in program.statements], ["t1", "t007"])


class NormalTextTest(unittest.TestCase):
    def test_the_whole(self):
        self.assertEqual(Program.parse(WHOLE).text, NORMAL)

    def test_conditionals_stay_apart(self):
        apart = "params n; array a; if n >= 0 { if n <= 5 { a = f(); } }"
        joined = "params n; array a; if n >= 0 and n <= 5 { a = f(); }"
        self.assertEqual(
            Program.parse(apart).text,
            "params n;\narray a;\nif n >= 0 {\n  if 5 - n >= 0 {\n    a = f();\n  }\n}\n",
        )
        self.assertEqual(
            Program.parse(joined).text,
            "params n;\narray a;\nif n >= 0 and 5 - n >= 0 {\n  a = f();\n}\n",
        )
        self.assertFalse(Program.parse(apart) == Program.parse(joined))

    def test_each_array_has_its_own_declaration(self):
        self.assertEqual(
            Program.parse("array a,b[ ];temp c[ , ],d;").text,
            "array a;\narray b[];\ntemp c[,];\ntemp d;\n",
        )

    def test_heads_that_are_missing(self):
        self.assertEqual(Program.parse("params n;").text, "params n;\n")
        self.assertEqual(Program.parse("context 1 > 0;").text, "context 0 >= 0;\n")
        self.assertEqual(Program.parse("array a; a = f();").text, "array a;\na = f();\n")

    def test_bounds(self):
        program = Program.parse(
            "params n; temp a; for i = max(n) to min(2 * n) { for j = max(0,i) to min(1,i) {"
            " a = f(a); } }"
        )
        self.assertEqual(
            program.text,
            "params n;\ntemp a;\nfor i = n to 2 * n {\n  for j = max(0, i) to min(1, i) {\n"
            "    a = f(a);\n  }\n}\n",
        )

    def test_names_stand_for_the_loops_around(self):
        text = (
            "array a[];\nfor i = 0 to 1 {\n  for j = i to 1 {\n    a[i + j] = f();\n  }\n"
            "  for k = i to 1 {\n    a[i + k] = g();\n  }\n}\nfor j = 0 to 1 {\n  a[j] = h();\n}\n"
        )
        self.assertEqual(Program.parse(text).text, text)

    def test_reading_it_back(self):
        chance = random.Random(19)
        for _ in range(150):
            program = Program.parse(random_program(chance))
            again = Program.parse(program.text)
            self.assertEqual(again.text, program.text)
            self.assertTrue(again == program)
            self.assertEqual(described(again), described(program))

    def test_the_layout_does_not_matter(self):
        chance = random.Random(13)
        for text in [WHOLE] + [random_program(chance) for _ in range(60)]:
            values = [str(sign[1]) for sign in read_signs(text)]
            for gaps in ([" "], ["\n"], ["\t"], ["  ", "\n\n", "\t \n"]):
                spread = "".join([value + chance.choice(gaps) for value in values])
                self.assertTrue(Program.parse(spread) == Program.parse(text))
                self.assertEqual(
                    described(Program.parse(spread)), described(Program.parse(text))
                )

    def test_without_any_spaces_that_can_be_missing(self):
        tight = "params n;context n>=1;array a[],b;for i=0 to n-1{a[i]=f(a[i-1],b);b=g();}"
        loose = (
            "params n ; context n >= 1 ; array a [ ] , b ; for i = 0 to n - 1 {"
            " a [ i ] = f ( a [ i - 1 ] , b ) ; b = g ( ) ; }"
        )
        self.assertTrue(Program.parse(tight) == Program.parse(loose))


class EqualityTest(unittest.TestCase):
    def test_equal_programs(self):
        one = Program.parse("params n; context n > 0; array a, b; a = f(b);")
        other = Program.parse("params n; context n - 1 >= 0; array a; array b; a = f(b);")
        self.assertTrue(one == other)
        self.assertFalse(one != other)

    def test_programs_that_are_not_equal(self):
        base = "params n; array a, b; a = f(b);"
        for text in (
            "params m; array a, b; a = f(b);", "params n; array b, a; a = f(b);",
            "params n; array a; temp b; a = f(b);", "params n; array a, b; a = g(b);",
            "params n; array a, b; a = f(a);", "params n; array a, b; a = f();",
            "params n; context n >= 0; array a, b; a = f(b);", "",
        ):
            self.assertFalse(Program.parse(base) == Program.parse(text))
            self.assertTrue(Program.parse(base) != Program.parse(text))

    def test_other_objects(self):
        program = Program.parse("params n;")
        self.assertFalse(program == program.text)
        self.assertFalse(program == None)  # noqa: E711


class LimitsOfTheClassTest(unittest.TestCase):
    def test_values(self):
        for name, value in (
            ("MOST_PARAMETERS", 2), ("MOST_CONTEXT", 4), ("MOST_ARRAYS", 4),
            ("MOST_DIMENSIONS", 2), ("MOST_STATEMENTS", 3), ("MOST_LOOPS", 3),
            ("MOST_CONDITIONS", 3), ("MOST_READS", 2), ("MOST_BOUNDS", 3),
            ("MOST_COEFFICIENT", 4), ("MOST_CONSTANT", 100), ("MOST_DIVISOR", 8),
        ):
            self.assertEqual(getattr(Program, name), value)


if __name__ == "__main__":
    unittest.main()
