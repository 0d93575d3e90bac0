"""Points 11 and 12: sums and conditions in texts, and their normal form."""

import unittest

from loopworks.expressions import all_hold, value_at
from loopworks.programs import Program


def context_of(condition, parameters="n, m"):
    """The constraints that a program has as its context."""
    head = f"params {parameters}; " if parameters else ""
    return Program.parse(f"{head}context {condition};").context


def normal_context(condition, parameters="n, m"):
    """The normal form of the conditions."""
    head = f"params {parameters}; " if parameters else ""
    line = Program.parse(f"{head}context {condition};").text.split("\n")[-2]
    return line.removeprefix("context ").removesuffix(";")


def index_of(text):
    """The expression, over n, m, i and j, of the index of an access."""
    program = Program.parse(
        "params n, m; array a[]; for i = 0 to n { for j = 0 to m { a[" + text + "] = f(); } }"
    )
    return program.statements[0].write[1][0]


def normal_index(text):
    """The normal form of the index of an access."""
    program = Program.parse(
        "params n, m; array a[]; for i = 0 to n { for j = 0 to m { a[" + text + "] = f(); } }"
    )
    return program.text.split("a[")[2].split("]")[0]


class SumsTest(unittest.TestCase):
    def test_terms(self):
        self.assertEqual(index_of("5"), (0, 0, 0, 0, 5))
        self.assertEqual(index_of("n"), (1, 0, 0, 0, 0))
        self.assertEqual(index_of("j"), (0, 0, 0, 1, 0))
        self.assertEqual(index_of("3 * i"), (0, 0, 3, 0, 0))
        self.assertEqual(index_of("0 * i"), (0, 0, 0, 0, 0))
        self.assertEqual(index_of("1*m"), (0, 1, 0, 0, 0))

    def test_signs_of_terms(self):
        self.assertEqual(index_of("n + m - i - 3"), (1, 1, -1, 0, -3))
        self.assertEqual(index_of("n - m + i + 3"), (1, -1, 1, 0, 3))
        self.assertEqual(index_of("- n + m"), (-1, 1, 0, 0, 0))
        self.assertEqual(index_of("-2*n-2*m"), (-2, -2, 0, 0, 0))
        self.assertEqual(index_of("-7+j"), (0, 0, 0, 1, -7))
        self.assertEqual(index_of("- 0"), (0, 0, 0, 0, 0))

    def test_like_terms_are_added_up(self):
        self.assertEqual(index_of("i + i + 2 * i"), (0, 0, 4, 0, 0))
        self.assertEqual(index_of("i - i"), (0, 0, 0, 0, 0))
        self.assertEqual(index_of("3 + n - 5 + 2 * n + 1"), (3, 0, 0, 0, -1))
        self.assertEqual(index_of("4 * j - n - 2 * j - n"), (-2, 0, 0, 2, 0))

    def test_what_is_too_much_in_parts_may_be_little_together(self):
        self.assertEqual(index_of("7 * i - 5 * i + 200 - 150"), (0, 0, 2, 0, 50))

    def test_without_variables(self):
        self.assertEqual(context_of("3 - 1 >= 1 + 1", ""), (("ge", (0,)),))
        program = Program.parse("array a[,]; a[-4 + 1, 2] = f();")
        self.assertEqual(program.statements[0].write, (0, ((-3,), (2,))))


class ConditionsTest(unittest.TestCase):
    def test_comparisons(self):
        self.assertEqual(context_of("n >= m + 2"), (("ge", (1, -1, -2)),))
        self.assertEqual(context_of("n > m + 2"), (("ge", (1, -1, -3)),))
        self.assertEqual(context_of("n <= m + 2"), (("ge", (-1, 1, 2)),))
        self.assertEqual(context_of("n < m + 2"), (("ge", (-1, 1, 1)),))
        self.assertEqual(context_of("n == m + 2"), (("eq", (1, -1, -2)),))

    def test_comparisons_mean_what_they_say(self):
        meanings = {
            "<=": lambda a, b: a <= b, "<": lambda a, b: a < b, ">=": lambda a, b: a >= b,
            ">": lambda a, b: a > b, "==": lambda a, b: a == b,
        }
        for sign, meaning in meanings.items():
            constraints = context_of(f"2 * n - 1 {sign} m")
            for n in range(-4, 5):
                for m in range(-9, 9):
                    self.assertIs(all_hold(constraints, (n, m)), meaning(2 * n - 1, m))

    def test_divides(self):
        self.assertEqual(context_of("3 divides n - 2 * m"), (("div", 3, (1, -2, 0)),))
        self.assertEqual(context_of("1 divides 7"), (("div", 1, (0, 0, 7)),))
        self.assertEqual(context_of("002 divides - m"), (("div", 2, (0, -1, 0)),))

    def test_and(self):
        self.assertEqual(
            context_of("n >= 1 and 2 divides m and m == 3"),
            (("ge", (1, 0, -1)), ("div", 2, (0, 1, 0)), ("eq", (0, 1, -3))),
        )

    def test_a_number_may_begin_a_comparison(self):
        self.assertEqual(context_of("3 <= n"), (("ge", (1, 0, -3)),))
        self.assertEqual(context_of("2 * n > 3"), (("ge", (2, 0, -4)),))
        self.assertEqual(context_of("0 == 0"), (("eq", (0, 0, 0)),))


class NormalFormTest(unittest.TestCase):
    def test_expressions(self):
        for text, normal in (
            ("0", "0"), ("5", "5"), ("-5", "0 - 5"), ("n", "n"), ("-n", "0 - n"),
            ("1 * n", "n"), ("2*n", "2 * n"), ("- 3 * j", "0 - 3 * j"), ("-1*j", "0 - j"),
            ("j + i + m + n", "n + m + i + j"),
            ("7 + j - i", "j + 7 - i"),
            ("-7 + j", "j - 7"),
            ("-j + 7", "7 - j"),
            ("-7 - i - n", "0 - n - i - 7"),
            ("4 - 2 * n - m + 3 * j", "3 * j + 4 - 2 * n - m"),
            ("i - i", "0"), ("0 * n + m", "m"), ("n + 0", "n"), ("n - 0", "n"),
            ("n - 1 - m", "n - m - 1"),
        ):
            with self.subTest(text):
                self.assertEqual(normal_index(text), normal)
                self.assertEqual(normal_index(normal), normal)
                self.assertEqual(index_of(normal), index_of(text))

    def test_conditions(self):
        for text, normal in (
            ("n >= m", "n - m >= 0"),
            ("n > m", "n - m - 1 >= 0"),
            ("n <= m", "m - n >= 0"),
            ("n < 4", "3 - n >= 0"),
            ("n < 1", "0 - n >= 0"),
            ("2 == m", "2 - m == 0"),
            ("n + 3 == 3 + n", "0 == 0"),
            ("4 divides 2 - n", "4 divides 2 - n"),
            ("1 divides -n", "1 divides 0 - n"),
            ("n >= 0 and 2 divides n and m == 1", "n >= 0 and 2 divides n and m - 1 == 0"),
        ):
            with self.subTest(text):
                self.assertEqual(normal_context(text), normal)
                self.assertEqual(normal_context(normal), normal)
                self.assertEqual(context_of(normal), context_of(text))

    def test_without_variables(self):
        self.assertEqual(normal_context("1 > 2", ""), "0 - 2 >= 0")
        self.assertEqual(normal_context("3 divides 3", ""), "3 divides 3")

    def test_every_small_expression_is_read_back(self):
        names = ("n", "m", "i", "j")
        for first in range(-2, 3):
            for second in range(-2, 3):
                for constant in (-100, -1, 0, 1, 100):
                    expression = (first, 0, second, 0, constant)
                    text = f"0{first:+} * n{second:+} * i{constant:+}"
                    self.assertEqual(index_of(text), expression)
                    self.assertEqual(index_of(normal_index(text)), expression)
                    self.assertEqual(value_at(expression, (1,) * len(names)), first + second + constant)


if __name__ == "__main__":
    unittest.main()
