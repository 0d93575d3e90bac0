"""Point 18: the limits of programs."""

import unittest

from loopworks.errors import TextFault, TooLarge
from loopworks.programs import Program


def nested(count, inner):
    """A statement in so many loops."""
    for name in "ijkl"[:count][::-1]:
        inner = f"for {name} = 0 to 1 {{ {inner} }}"
    return "array a; " + inner


class LimitsTest(unittest.TestCase):
    def check(self, at_the_limit, beyond):
        Program.parse(at_the_limit)
        with self.assertRaises(TooLarge):
            Program.parse(beyond)

    def test_parameters(self):
        self.check("params n, m;", "params n, m, l;")

    def test_context(self):
        self.check("context " + " and ".join(["1 >= 0"] * 4) + ";",
                   "context " + " and ".join(["1 >= 0"] * 5) + ";")

    def test_arrays(self):
        self.check("array a, b; temp c, d;", "array a, b; temp c, d, e;")
        self.check("array a, b, c, d;", "array a, b, c, d; array e;")

    def test_dimensions(self):
        self.check("array a[,];", "array a[,,];")
        self.check("temp a[,];", "temp a[,,,];")

    def test_statements(self):
        three = "array a; a = f(); a = g(); a = h();"
        self.check(three, three + " a = k();")
        self.check(three, "array a; for i = 0 to 1 { a = f(); a = g(); } a = h(); a = k();")

    def test_loops(self):
        self.check(nested(3, "a = f();"), nested(4, "a = f();"))

    def test_loops_around_different_statements(self):
        loops = "for i = 0 to 1 { for j = 0 to 1 { for k = 0 to 1 { a = NAME(); } } } "
        text = "array a; " + loops.replace("NAME", "f") + loops.replace("NAME", "g")
        self.assertEqual(len(Program.parse(text).loops), 6)

    def test_conditions(self):
        conditional = "array a; if {} {{ a = f(); }}"
        self.check(conditional.format(" and ".join(["0 >= 0"] * 3)),
                   conditional.format(" and ".join(["0 >= 0"] * 4)))
        apart = "array a; if 0 >= 0 and 1 >= 0 { if CONDITIONS { a = f(); } }"
        self.check(apart.replace("CONDITIONS", "2 >= 0"),
                   apart.replace("CONDITIONS", "2 >= 0 and 3 >= 0"))

    def test_conditions_of_different_statements(self):
        three = "if 0 >= 0 and 1 >= 0 and 2 >= 0 "
        text = f"array a; {three} {{ a = f(); }} {three} {{ a = g(); }}"
        self.assertEqual(len(Program.parse(text).statements[1].conditions), 3)

    def test_reads(self):
        self.check("array a; a = f(a, a);", "array a; a = f(a, a, a);")

    def test_bounds(self):
        loop = "array a; for i = max({}) to min({}) {{ a = f(); }}"
        three, four = "1, 2, 3", "1, 2, 3, 4"
        self.check(loop.format(three, three), loop.format(four, three))
        self.check(loop.format(three, three), loop.format(three, four))

    def test_divisors(self):
        self.check("context 8 divides 1;", "context 9 divides 1;")
        loop = "array a; for i = 0 to 1 {{ if {} divides i {{ a = f(); }} }}"
        self.check(loop.format(8), loop.format(9))

    def check_numbers(self, template):
        """The template takes an expression over n."""
        self.check(template.format("4 * n + 1"), template.format("5 * n + 1"))
        self.check(template.format("1 - 4 * n"), template.format("1 - 5 * n"))
        self.check(template.format("n + 100"), template.format("n + 101"))
        self.check(template.format("n - 100"), template.format("n - 101"))
        with self.assertRaises(TooLarge):
            Program.parse(template.format("999999999 * n"))

    def test_numbers_in_the_context(self):
        self.check_numbers("params n; context {} >= 0;")
        self.check_numbers("params n; context n >= 0 and {} == 0;")
        self.check_numbers("params n; context 3 divides {} and n >= 0;")

    def test_numbers_in_bounds(self):
        self.check_numbers("params n; array a; for i = {} to 1 {{ a = f(); }}")
        self.check_numbers("params n; array a; for i = 1 to {} {{ a = f(); }}")
        self.check_numbers("params n; array a; for i = max(1, {}) to 1 {{ a = f(); }}")
        self.check_numbers("params n; array a; for i = 1 to min(1, {}) {{ a = f(); }}")

    def test_numbers_in_conditions(self):
        self.check_numbers("params n; array a; if {} >= 0 {{ a = f(); }}")
        self.check_numbers("params n; array a; if {} == 0 {{ a = f(); }}")
        self.check_numbers("params n; array a; if 2 divides {} {{ a = f(); }}")
        self.check_numbers("params n; array a; if n >= 0 {{ if {} >= 0 {{ a = f(); }} }}")

    def test_numbers_in_indices(self):
        self.check_numbers("params n; array a[]; a[{}] = f();")
        self.check_numbers("params n; array a[,]; a[1, {}] = f();")
        self.check_numbers("params n; array a[]; a[1] = f(a[{}]);")
        self.check_numbers("params n; array a[,]; a[1, 1] = f(a[1, 1], a[1, {}]);")

    def test_coefficients_of_loops(self):
        loop = "array a[]; for i = 0 to 1 {{ a[{} * i] = f(); }}"
        self.check(loop.format(4), loop.format(5))
        loops = "array a[]; for i = 0 to 1 {{ for j = 0 to {} * i {{ a[j] = f(); }} }}"
        self.check(loops.format(4), loops.format(5))

    def test_faults_come_first(self):
        for text in (
            "params n, m, l; array a, a;", "array a[,,]; b = f();", "context 9 divides 1 and;",
            nested(4, "a = f()"), "context 101 >= 0; !",
        ):
            with self.assertRaises(TextFault):
                Program.parse(text)


if __name__ == "__main__":
    unittest.main()
