"""Points 67, 74 and 75: code, its text, its faults and its normal text."""

import random
import unittest

from loopworks.codes import Code
from loopworks.errors import TextFault
from loopworks.programs import Program
from loopworks.schedules import Schedule
from loopworks.generating import generate
from tests.cases import GROWING, SMALL
from tests.helpers import RESERVED, fault_of, marked
from tests.random_programs import random_conditions, random_program, random_sum
from tests.test_schedules import random_schedule

PROGRAM = Program.parse(
    "params n, m; array a[], s; s = f(); for i = 0 to n { a[i] = g(); for j = 0 to n { a[i] = h(); } }"
)
F = ("statement", 0, ())


def body_of(text, program=PROGRAM):
    return Code.parse(text, program).body


def alone(*items):
    """A body of items in sequence."""
    return tuple([(item, True) for item in items])


class FormsTest(unittest.TestCase):
    """Each form of point 74, with the body written out."""

    def check(self, text, body, normal=None):
        code = Code.parse(text, PROGRAM)
        self.assertEqual(code.body, body)
        self.assertIs(code.program, PROGRAM)
        if normal is not None:
            self.assertEqual(code.text, normal)
        again = Code.parse(code.text, PROGRAM)
        self.assertEqual((again.body, again.text), (code.body, code.text))
        self.assertEqual(again, code)

    def test_the_empty_text(self):
        self.check("", (), "")
        self.check(" \n\t ", (), "")

    def test_statements(self):
        self.check("f();", alone(F), "f();\n")
        self.check("g(n - 2 * m + 3);", alone(("statement", 1, ((1, -2, 3),))), "g(n + 3 - 2 * m);\n")
        self.check("h(m,-1);", alone(("statement", 2, ((0, 1, 0), (0, 0, -1)))), "h(m, 0 - 1);\n")

    def test_items_in_sequence_and_in_parallel(self):
        self.check("f(); f();", alone(F, F), "f();\nf();\n")
        self.check("f(); || f();", ((F, False), (F, True)), "f();\n||\nf();\n")
        self.check(
            "f(); f(); || f(); f();", ((F, True), (F, False), (F, True), (F, True)),
            "f();\nf();\n||\nf();\nf();\n",
        )

    def test_blocks(self):
        self.check("{ f(); }", alone(("if", (), alone(F))), "{\n  f();\n}\n")
        self.check(
            "{ f(); || f(); } || { f(); }",
            ((("if", (), ((F, False), (F, True))), False), (("if", (), alone(F)), True)),
            "{\n  f();\n  ||\n  f();\n}\n||\n{\n  f();\n}\n",
        )
        self.check("{{f();}}", alone(("if", (), alone(("if", (), alone(F))))), "{\n  {\n    f();\n  }\n}\n")

    def test_conditionals(self):
        self.check(
            "if n > m { f(); }", alone(("if", (("ge", (1, -1, -1)),), alone(F))),
            "if n - m - 1 >= 0 {\n  f();\n}\n",
        )
        self.check(
            "if 3 divides n and n == m and 2 * n <= 4 { f(); f(); }",
            alone(("if", (("div", 3, (1, 0, 0)), ("eq", (1, -1, 0)), ("ge", (-2, 0, 4))), alone(F, F))),
            "if 3 divides n and n - m == 0 and 4 - 2 * n >= 0 {\n  f();\n  f();\n}\n",
        )

    def loop(self, sequential, lowers, uppers, body):
        return ("loop", sequential, lowers, uppers, body)

    def test_loops(self):
        low, up = ((0, 0, 0), 1), ((1, 0, 0), 1)
        self.check(
            "for t1 = 0 to n { f(); }", alone(self.loop(True, ((low,),), ((up,),), alone(F))),
            "for t1 = 0 to n {\n  f();\n}\n",
        )
        inner = ("statement", 2, ((0, 0, 1, 0, 0), (0, 0, 1, -1, 2)))
        self.check(
            "parfor t1 = 0 to n { for t2 = t1 to m + 2 { h(t1, t1 - t2 + 2); } }",
            alone(self.loop(False, ((low,),), ((up,),), alone(
                self.loop(True, ((((0, 0, 1, 0), 1),),), ((((0, 1, 0, 2), 1),),), alone(inner))
            ))),
            "parfor t1 = 0 to n {\n  for t2 = t1 to m + 2 {\n    h(t1, t1 + 2 - t2);\n  }\n}\n",
        )

    def test_loops_one_behind_the_other_have_the_same_name(self):
        one = self.loop(True, ((((0, 0, 0), 1),),), ((((1, 0, 0), 1),),), alone(F))
        self.check("for t1 = 0 to n { f(); } || for t1 = 0 to n { f(); }", ((one, False), (one, True)))
        self.check("{ for t1 = 0 to n { f(); } } for t1 = 0 to n { f(); }", alone(("if", (), alone(one)), one))

    def test_bounds(self):
        for text, lowers in (
            ("0", ((((0, 0, 0), 1),),)),
            ("ceil(n, 2)", ((((1, 0, 0), 2),),)),
            ("ceil(n + 1, 1)", ((((1, 0, 1), 1),),)),
            ("max(0, n)", ((((0, 0, 0), 1), ((1, 0, 0), 1)),)),
            ("max(n)", ((((1, 0, 0), 1),),)),
            ("min(max(0, ceil(n, 3)), m)", ((((0, 0, 0), 1), ((1, 0, 0), 3)), (((0, 1, 0), 1),))),
            ("min(n)", ((((1, 0, 0), 1),),)),
            ("min(max(n))", ((((1, 0, 0), 1),),)),
            ("min(n, m)", ((((1, 0, 0), 1),), (((0, 1, 0), 1),))),
            ("min(max(n, m, 1), max(2, 3))", (
                (((1, 0, 0), 1), ((0, 1, 0), 1), ((0, 0, 1), 1)), (((0, 0, 2), 1), ((0, 0, 3), 1)),
            )),
        ):
            self.check(
                f"for t1 = {text} to m {{ f(); }}",
                alone(self.loop(True, lowers, ((((0, 1, 0), 1),),), alone(F))),
            )
            mirrored = text.replace("max", "?").replace("min", "max").replace("?", "min").replace("ceil", "floor")
            self.check(
                f"parfor t1 = m to {mirrored} {{ f(); }}",
                alone(self.loop(False, ((((0, 1, 0), 1),),), lowers, alone(F))),
            )

    def test_normal_texts_of_bounds(self):
        for text, normal in (
            ("min(max(0, ceil(n, 3)), m)", "min(max(0, ceil(n, 3)), m)"), ("max(n)", "n"), ("min(max(n))", "n"),
            ("ceil(2 * n - 2 * n + 1, 1)", "1"), ("min(ceil(n, 2), ceil(m, 4))", "min(ceil(n, 2), ceil(m, 4))"),
        ):
            self.assertEqual(
                Code.parse(f"for t1 = {text} to m {{ f(); }}", PROGRAM).text,
                f"for t1 = {normal} to m {{\n  f();\n}}\n",
            )
        self.assertEqual(
            Code.parse("for t1 = n to max(min(0, floor(n, 3)), m) { f(); }", PROGRAM).text,
            "for t1 = n to max(min(0, floor(n, 3)), m) {\n  f();\n}\n",
        )

    def test_iterators_of_a_program_without_parameters(self):
        program = Program.parse("array s; s = t1();")
        code = Code.parse("for t1 = 1 to 3 { for t2 = t1 to 2 * t1 { t1(); } }", program)
        self.assertEqual(
            code.body,
            alone(("loop", True, ((((1,), 1),),), ((((3,), 1),),), alone(
                ("loop", True, ((((1, 0), 1),),), ((((2, 0), 1),),), alone(("statement", 0, ())))
            ))),
        )


class EqualityTest(unittest.TestCase):
    def test_layouts(self):
        one = Code.parse("for t1=0 to n{if n>=1 and m==2{g(t1);}||f();}", PROGRAM)
        other = Code.parse(
            "for t1 = max(1 - 1)\nto min(n)\t{\n if n - 1 >= 0 and m - 2 == 0 { g(0 + t1); } || f(); }", PROGRAM
        )
        self.assertEqual(one, other)
        self.assertTrue(one == other)
        self.assertFalse(one != other)
        self.assertEqual(one.body, other.body)

    def test_differences(self):
        texts = (
            "f();", "f(); f();", "f(); || f();", "{ f(); }", "for t1 = 0 to n { f(); }", "",
            "parfor t1 = 0 to n { f(); }", "for t1 = 0 to m { f(); }", "if n >= 0 { f(); }",
        )
        codes = [Code.parse(text, PROGRAM) for text in texts]
        for at, one in enumerate(codes):
            for number, other in enumerate(codes):
                self.assertIs(one == other, at == number)
            self.assertFalse(one == texts[at])
            self.assertFalse(one == None)  # noqa: E711


class FaultsTest(unittest.TestCase):
    def check(self, text, reason, program=PROGRAM):
        text, line, column = marked(text)
        self.assertEqual(fault_of(Code.parse, text, program), (line, column, reason), text)

    def test_unknown_names(self):
        for text in (
            "@x();", "f(); @ff();", "for t1 = 0 to n { @k(); }", "@n();", "@t1();", "f(); || @x();",
            "g(@x);", "g(n + @t1);", "for t1 = @t1 to n { f(); }", "for t1 = 0 to @t1 { f(); }",
            "for t1 = 0 to n { for t2 = t1 to @t2 { f(); } }", "for t1 = 0 to n { g(@i); }",
            "for t1 = 0 to n { f(); } g(@t1);", "if @x >= 0 { f(); }", "if n >= 2 * @x { f(); }",
            "for t1 = min(max(0, ceil(@x, 2)), n) to n { f(); }", "@a();", "@s = f();",
        ):
            self.check(text, "unknown name")

    def test_names_of_loops(self):
        for text in (
            "for @t2 = 0 to n { f(); }", "for @i = 0 to n { f(); }", "parfor @t0 = 0 to n { f(); }",
            "for t1 = 0 to n { for @t1 = 0 to n { f(); } }", "for t1 = 0 to n { parfor @t3 = 0 to n { f(); } }",
            "{ for @t2 = 0 to n { f(); } }", "for @n = 0 to n { f(); }", "for @t01 = 0 to n { f(); }",
            "for t1 = 0 to n { f(); } for @t2 = 0 to n { f(); }", "for @for = 0 to n { f(); }",
            "for @1 = 0 to n { f(); }", "for @= 0 to n { f(); }",
        ):
            self.check(text, "unexpected sign")

    def test_numbers_of_sums(self):
        for text in (
            "f(@n);", "g(@);", "g(n@, m);", "h(n@);", "h(n, m@, n);", "f@;", "f(@;", "h(n@;", "h(@);", "g(n@",
            "f(@", "f()@", "f() @}", "f() @f();",
        ):
            self.check(text, "unexpected sign")

    def test_empty_bodies(self):
        for text in (
            "{@}", "for t1 = 0 to n {@}", "parfor t1 = 0 to n { f(); } || { @}",
            "if n >= 0 { f(); {@} }", "{ {\n@} }", "{{{@}}}",
        ):
            self.check(text, "empty body")

    def test_missing_items(self):
        for text in (
            "f(); || @", "f(); || @|| f();", "@|| f();", "{ f(); || @}", "{ @|| f(); }", "{@", "{ f();@",
            "@}", "f(); @}", "{ f(); } @}", "for t1 = 0 to n @f();", "if n >= 0 @f();", "for t1 = 0 to n {@",
            "@;", "f();@;", "@3;", "f(); @params n;", "@array a;", "f(); @to", "@and", "@max(f());", "@( f(); )",
            "{ f(); @)", "@= f();",
        ):
            self.check(text, "unexpected sign")

    def test_reserved_words(self):
        for word in RESERVED:
            if word not in ("for", "parfor", "if"):
                self.check(f"@{word}();", "unexpected sign")
            self.check(f"g(@{word});", "unexpected sign")

    def test_bounds(self):
        for text in (
            "for t1 @to n { f(); }", "for t1 = @to n { f(); }", "for t1 = 0 @n { f(); }", "for t1 = 0 to @{ f(); }",
            "for t1 = @floor(n, 2) to n { f(); }", "for t1 = 0 to @ceil(n, 2) { f(); }",
            "for t1 = max(@min(n)) to n { f(); }", "for t1 = max(0, @max(n)) to n { f(); }",
            "for t1 = min(@min(n)) to n { f(); }", "for t1 = 0 to min(@max(n)) { f(); }",
            "for t1 = 0 to max(0, @max(n)) { f(); }", "for t1 = max(@) to n { f(); }", "for t1 = max @to n { f(); }",
            "for t1 = ceil(n@) to n { f(); }", "for t1 = ceil(n, @) to n { f(); }",
            "for t1 = ceil(n, @m) to n { f(); }", "for t1 = ceil(n, 2 @to n { f(); }",
            "for t1 = max(n @to n { f(); }", "for t1 = min(n, 1 @to n { f(); }", "for t1 = ceil(n, @-1) to n { f(); }",
            "for t1 = ceil(@ceil(n, 2), 2) to n { f(); }",
        ):
            self.check(text, "unexpected sign")

    def test_divisors(self):
        for text in (
            "for t1 = ceil(n, @0) to n { f(); }", "for t1 = 0 to floor(n, @0) { f(); }",
            "for t1 = max(1, ceil(n, @000)) to n { f(); }", "for t1 = 0 to max(min(1, floor(1, @0)), 2) { f(); }",
            "if 0 @divides n { f(); }", "if n >= 0 and 0 @divides n { f(); }", "g(0 @divides n);",
        ):
            self.check(text, "number must be at least 1")
        self.check("g(1 @divides n);", "unexpected sign")

    def test_depth(self):
        opened = "{ " * 16
        self.check(opened + "@{ f(); }", "nested too deeply")
        self.check(opened + "if n >= 0 @{ f(); }", "nested too deeply")
        self.check(opened + "for t1 = 0 to n @{ f(); }", "nested too deeply")
        self.check(opened + "f(); @{", "nested too deeply")
        self.check(opened + "g(@{", "nested too deeply")
        self.check(opened + "for @{", "nested too deeply")
        self.check("{ " * 15 + "g(@{", "unexpected sign")
        body = body_of(opened + "f();" + " }" * 16)
        for _ in range(16):
            self.assertEqual(len(body), 1)
            body = body[0][0][2]
        self.assertEqual(body, alone(F))
        self.check("{ " * 15 + "{@}", "empty body")
        self.check("{ " * 15 + "{@", "unexpected sign")
        self.assertEqual(len(body_of("{ f(); } " * 40)), 40)

    def test_loops_in_loops(self):
        text = ""
        for depth in range(16):
            text += f"for t{depth + 1} = 0 to n {{ "
        self.check(text + "for t17 = 0 to n @{ f(); }", "nested too deeply")
        self.check(text + "for @t16 = 0 to n { f(); }", "unexpected sign")
        code = Code.parse(text + "g(t16 - t1);" + " }" * 16, PROGRAM)
        self.assertIn("g(t16 - t1);", code.text)
        self.assertEqual(Code.parse(code.text, PROGRAM).body, code.body)

    def test_faults_of_characters_come_first(self):
        self.check("x(); f(@&);", "unexpected character")
        self.check("x(); f();\n @| f();", "unexpected character")
        self.check("x(" + "a" * 20 + "@a);", "name too long")
        self.check("x(123456789@0);", "number too long")

    def test_the_end_of_the_text(self):
        self.check("f();\n{\n f();\n@", "unexpected sign")
        self.check("f(@", "unexpected sign")
        self.check("for@", "unexpected sign")

    def test_no_statements(self):
        program = Program.parse("params n;")
        self.assertEqual(Code.parse("", program).body, ())
        self.check("@f();", "unknown name", program)

    def test_kinds(self):
        with self.assertRaises(TextFault):
            Code.parse("x();", PROGRAM)


class Texts:
    """Makes texts of random code."""

    def __init__(self, chance):
        self.chance = chance

    def bound(self, names, rounding):
        text = random_sum(self.chance, names)
        if self.chance.random() < 0.3:
            return f"{rounding}({text}, {self.chance.randrange(1, 9)})"
        return text

    def several(self, make, function):
        found = [make() for _ in range(self.chance.choice([1, 1, 1, 2, 3]))]
        if len(found) == 1 and self.chance.random() < 0.8:
            return found[0]
        return f"{function}({', '.join(found)})"

    def bounds(self, names, outer, inner, rounding):
        return self.several(lambda: self.several(lambda: self.bound(names, rounding), inner), outer)

    def item(self, names, depth):
        drawn = self.chance.random()
        if depth < 4 and drawn < 0.35:
            name = f"t{len(names) - 1}"
            low = self.bounds(names, "min", "max", "ceil")
            up = self.bounds(names, "max", "min", "floor")
            word = self.chance.choice(["for", "parfor"])
            return f"{word} {name} = {low} to {up} {{ {self.items(names + [name], depth + 1)} }}"
        if depth < 4 and drawn < 0.5:
            head = f"if {random_conditions(self.chance, names, 3)} " if drawn < 0.45 else ""
            return f"{head}{{ {self.items(names, depth + 1)} }}"
        name, count = self.chance.choice([("f", 0), ("g", 1), ("h", 2)])
        return f"{name}({', '.join([random_sum(self.chance, names) for _ in range(count)])});"

    def items(self, names, depth):
        text = self.item(names, depth)
        while self.chance.random() < 0.3:
            text += self.chance.choice([" ", " || "]) + self.item(names, depth)
        return text


def random_code(chance):
    """The text of code for the program of this file."""
    return Texts(chance).items(["n", "m"], 0)


class RandomTextsTest(unittest.TestCase):
    def test_normal_texts(self):
        chance = random.Random(75)
        for _ in range(300):
            code = Code.parse(random_code(chance), PROGRAM)
            again = Code.parse(code.text, PROGRAM)
            self.assertEqual((again.text, again.body), (code.text, code.body))

    def test_generated_code(self):
        chance = random.Random(76)
        for _ in range(120):
            text = chance.choice(SMALL + GROWING) if chance.random() < 0.5 else random_program(chance)
            program = Program.parse(text)
            code = generate(program, Schedule.parse(random_schedule(chance, program), program))
            self.assertEqual(Code.parse(code.text, program).body, code.body)
            self.assertEqual(Code.parse(code.text, program), code)
            self.assertIs(code.program, program)


if __name__ == "__main__":
    unittest.main()
