"""Points 6 and 17: the faults of the texts of programs. The mark @ stands at the fault."""

import unittest

from loopworks.errors import TooLarge
from loopworks.programs import Program
from tests.helpers import RESERVED, fault_of, marked

UNEXPECTED = "unexpected sign"
UNKNOWN = "unknown name"
USED = "name already used"
AT_LEAST_1 = "number must be at least 1"
DEEP = "nested too deeply"
EMPTY = "empty body"


class FaultsTest(unittest.TestCase):
    def check(self, reason, *texts):
        for text in texts:
            with self.subTest(text):
                plain, line, column = marked(text)
                self.assertEqual(fault_of(Program.parse, plain), (line, column, reason))

    def check_in_program(self, reason, *texts):
        """The texts stand behind declarations and within a loop."""
        head = "params n;\ncontext n >= 0;\narray a[], s;\ntemp b[,];\nfor i = 0 to n {\n  "
        self.check(reason, *[head + text for text in texts])


class UnexpectedSignTest(FaultsTest):
    def test_in_the_parameters(self):
        self.check(
            UNEXPECTED, "params @;", "params n @m;", "params n, @;", "params n, @, m;",
            "params @1;", "params n; @params m;", "params @[n];", "params n @= 2;",
        )

    def test_in_the_context(self):
        self.check(
            UNEXPECTED, "context @;", "context 1 @;", "context 1 >= @;", "context 1 >= 0 @>= 0;",
            "context 1 @= 0;", "context 1 >= 0 and @;", "context 1 >= 0 @, 2 >= 0;",
            "context 1 >= 0; @context 1 >= 0;", "context 1 >= 0; @params n;",
            "context @(1) >= 0;", "context @divides 3;", "context 1 >= 2 @divides 2;",
            "context 2 divides 4 @>= 0;", "context 2 divides @;", "context @>= 0;",
            "params n; context n @divides 2;", "params n; context 2 * n @divides 2;",
            "context 1 >= 0 @{", "context @and 1 >= 0;", "context 1 @and 1 >= 0;",
        )

    def test_in_the_declarations(self):
        self.check(
            UNEXPECTED, "array @;", "array a @b;", "array a, @;", "array a[@n];", "array a[@1];",
            "array a[, @;", "array a[@;", "array a@];", "array a[]@[];",
            "array a[]@[,];", "temp @1;", "array a; @context 1 >= 0;",
            "array a; @params n;", "array a @temp b;", "array a @= f();",
        )

    def test_in_sums(self):
        self.check_in_program(
            UNEXPECTED, "a[@] = f();", "a[i @j] = f();", "a[i @2] = f();", "a[2 @i] = f();",
            "a[i @* 2] = f();", "a[2 * @2] = f();", "a[2 * @] = f();", "a[2 @(i)] = f();",
            "a[@+ i] = f();", "a[- @- i] = f();", "a[i + @+ i] = f();", "a[i - @] = f();",
            "a[i @* n] = f();", "a[@(i)] = f();", "a[2 * @-1] = f();",
            "a[i @>= 0] = f();", "a[2 * i @* n] = f();", "a[@max(i)] = f();",
        )

    def test_a_product_where_there_are_no_variables(self):
        self.check(
            UNEXPECTED, "context 2 @* n >= 0;", "context 2 @* 3 >= 0;", "context 0 <= 2 @* n;",
            "array a[]; a[2 @* i] = f();", "array a[]; a[1 + 2 @* i] = f();",
            "context 2 divides 3 @* n;", "array a; for i = 0 to 2 @* i { a = f(); }",
            "array a; if 2 @* i >= 0 { a = f(); }", "array a; for i = 2 @* i to 3 { a = f(); }",
        )

    def test_in_accesses(self):
        self.check_in_program(
            UNEXPECTED, "a @= f();", "a[i@, i] = f();", "a[i @= f();", "a[i @;",
            "s@[i] = f();", "s@[] = f();", "b[i@] = f();", "b @= f();", "b[i, @] = f();",
            "b[i, i@, i] = f();", "b[@, i] = f();", "a[i] = f(s@[i]);", "a[i] = f(a@);",
            "a[i] = f(b[i@]);", "a[i] = f(a[i@, i]);", "b[i@][i] = f();",
        )

    def test_in_statements(self):
        self.check_in_program(
            UNEXPECTED, "s @f();", "s = @;", "s = @2;", "s = f@;", "s = f(@;", "s = f() @}",
            "s = f(@,);", "s = f(s@;", "s = f(s, @);", "s = f(s @s);", "s = f(@1);",
            "s = f(@2 * i);", "s @== f();", "s = f@[s];", "@;",
            "s = f();@;", "s @+ f();", "@1 = f();", "@(s) = f();", "s = @(f)();", "s @, s = f();",
        )

    def test_in_loops(self):
        self.check_in_program(
            UNEXPECTED, "for @= 0 to 1 { s = f(); }", "for j @0 to 1 { s = f(); }",
            "for j = @to 1 { s = f(); }", "for j = 0 @{ s = f(); }", "for j = 0 to @{ s = f(); }",
            "for j = 0 to 1 @s = f();", "for j = 0@, 1 to 2 { s = f(); }", "for @1 = 0 to 2 {",
            "for j = 0 to 1@; { s = f(); }", "for j @== 0 to 1 { s = f(); }",
            "for j = 0 - @to 1 {", "for j@[ = 0", "@parfor j = 0 to 1 {",
        )

    def test_in_bounds(self):
        self.check_in_program(
            UNEXPECTED, "for j = @min(0, 1) to 1 {", "for j = 0 to @max(0, 1) {",
            "for j = max @0 to 1 {", "for j = max(@) to 1 {", "for j = max(0 @to 1 {",
            "for j = max(0, @) to 1 {", "for j = max(0 @1) to 1 {", "for j = max(0) @+ 1 to 1 {",
            "for j = 1 + @max(0) to 1 {", "for j = max(@max(0)) to 1 {", "for j = 0 to min@[0] {",
            "for j = @floor(0, 1) to 1 {", "for j = 0 to min(1, 2@; {", "for j = 0 to @ceil(1, 2)",
        )

    def test_in_conditionals(self):
        self.check_in_program(
            UNEXPECTED, "if @{ s = f(); }", "if i @{ s = f(); }", "if i >= 0 @s = f();",
            "if @(i >= 0) { s = f(); }", "if i >= 0 and @{ s = f(); }", "if i >= 0 @, i >= 1 {",
            "if i >= 0@; { s = f(); }", "if i @= 0 { s = f(); }", "if i <= 0 @<= 1 {",
            "if 2 @2 >= 0 {", "if i > @= 0 {", "if i @divides 2 {", "if @divides i {",
        )

    def test_around_items(self):
        self.check(
            UNEXPECTED, "@}", "@{", "@2 = f();", "array s; s = f(); @}",
            "array s; s = f(); @array b;", "array s; s = f(); @temp b;",
            "array s; if 0 >= 0 { s = f(); } @}", "array s; @{ s = f(); }", "@rows;", "@to",
            "array s; if 0 >= 0 { @array b; }", "array s; if 0 >= 0 { s = f(); @params n; }",
            "array s; s = f() @|| s = g();", "array s; if 0 >= 0 { @{ s = f(); } }",
        )

    def test_at_the_end(self):
        self.check(
            UNEXPECTED, "params@", "params @", "params n@", "params n,\n@", "params n;\ncontext@",
            "context 1@", "context 1 >=\t@", "context 2 divides@", "context 0 >= 0 and@",
            "context 0 >= 0\n\n  @", "array@", "array a@", "array a[@", "array a[,\n@", "temp a,@",
            "array a; a@", "array a; a =@", "array a; a = f@", "array a; a = f(@",
            "array a; a = f()@", "array a; a = f(a@", "array a; a = f(a,\n \n@",
            "array a; for@", "array a; for i@", "array a; for i =@", "array a; for i = 0@",
            "array a; for i = 0 to@", "array a; for i = 0 to 1@", "array a; for i = 0 to 1 {@",
            "array a; for i = 0 to 1 {\n  a = f();\n@", "array a; for i = max@",
            "array a; for i = max(@", "array a; for i = max(1@", "array a; for i = 0 to min(1,@",
            "array a; if@", "array a; if 0@", "array a; if 0 >= 0@", "array a; if 0 >= 0 {   @",
            "array a[]; a[@", "array a[]; a[1@", "array a[]; a[1 +@", "array a[,]; a[1,@",
            "params n; context n >= 2 *@", "params n; context n >= -@",
        )


class NamesTest(FaultsTest):
    def test_reserved_words(self):
        for word in RESERVED:
            self.check(
                UNEXPECTED, f"params @{word};", f"params n, @{word};", f"array @{word};",
                f"temp a, @{word};", f"array s; s = @{word}();", f"array s; s = f(@{word});",
                f"array s; for @{word} = 0 to 1 {{ s = f(); }}", f"context @{word} >= 0;",
                f"array a[]; a[@{word}] = f();", f"params n; context 2 * @{word} >= 0;",
                f"params n; context n + @{word} >= 0;",
            )
            if word not in ("for", "if"):
                self.check(UNEXPECTED, f"array s; s = f(); @{word} = g();")
                self.check(UNEXPECTED, f"array s; if 0 >= 0 {{ @{word} = g(); }}")

    def test_iterators_as_parameters_and_loops(self):
        for name in ("t0", "t1", "t9", "t12", "t007", "t1234567890123456789"):
            self.check(
                UNEXPECTED, f"params @{name};", f"params n, @{name};",
                f"array s; for @{name} = 0 to 1 {{ s = f(); }}",
            )

    def test_unknown_names_in_sums(self):
        self.check(
            UNKNOWN, "context @n >= 0;", "params n; context @m >= 0;", "params n; context n > @N;",
            "params n; context 2 divides n + @k;", "params n; context n - 2 * @i == 0;",
            "array A[]; A[@i] = f();", "array a[]; a[2 - @a] = f();", "array a[]; a[1] = f(a[@f]);",
            "array a; for i = @i to 3 { a = f(); }", "array a; for i = 0 to @i { a = f(); }",
            "array a; for i = 0 to 1 { for j = @j to i { a = f(); } }",
            "array a; for i = 0 to 1 { for j = i to min(i, @j) { a = f(); } }",
            "array a; if @i >= 0 { a = f(); }", "array a; if @a >= 0 { a = f(); }",
            "params n; array a; for i = 0 to n { if i >= 0 and n >= @m { a = f(); } }",
        )

    def test_loops_that_are_no_longer_around(self):
        self.check(
            UNKNOWN, "array a[]; for i = 0 to 1 { a[i] = f(); } a[@i] = g();",
            "array a[]; for i = 0 to 1 { for j = 0 to i { a[j] = f(); } a[i + @j] = g(); }",
            "array a; for i = 0 to 1 { a = f(); } for j = 0 to @i { a = g(); }",
            "array a; for i = 0 to 1 { a = f(); } if @i >= 0 { a = g(); }",
        )

    def test_unknown_arrays(self):
        self.check(
            UNKNOWN, "@a = f();", "array a; @b = f();", "array a; a = f(@b);", "array a; @A = f();",
            "array a; a = f(a, @f);", "params n; array a; @n = f();", "array a; a = f(); @f = g();",
            "params n; array a; for i = 0 to n { @i = f(); }", "array a; if 0 >= 0 { @x",
            "array a; a = f(@n[2 * i]);", "@t1 = f();",
        )

    def test_names_already_used(self):
        self.check(
            USED, "params n, @n;", "array a, @a;", "array a; temp @a[];", "temp b, a; array c, @b;",
            "array a; a = f(); a = @f();", "array a; a = f(); a = g(a); a = @f(a);",
            "params n; array a; for @n = 0 to 1 { a = f(); }",
            "params n, m; array a; for @m = 0 to 1 { a = f(); }",
            "array a; for i = 0 to 1 { for @i = 0 to 1 { a = f(); } }",
            "array a; for i = 0 to 1 { for j = 0 to 1 { for @i = 0 to 1 { a = f(); } } }",
            "array a; for i = 0 to 1 { if i > 0 { for @i = 0 to 1 { a = f(); } } }",
            "array a; for i = 0 to 1 { a = f(); } for i = 0 to 1 { a = @f(); }",
        )


class OtherReasonsTest(FaultsTest):
    def test_numbers_of_at_least_1(self):
        self.check(
            AT_LEAST_1, "context 0 @divides 2;", "params n; context n >= 0 and 0\n @divides n;",
            "array a; if 000 @divides 2 { a = f(); }", "context 0 @divides",
        )

    def test_divides_behind_0_where_it_may_not_stand(self):
        self.check(
            AT_LEAST_1, "params n; array a[]; a[0 @divides n] = f();", "context 0 >= 0 @divides 2;",
            "array a[]; a[1 + 0 @divides", "params n; context n + 00 @divides 2;",
            "array a[]; for i = 0 @divides 2 to 3 {", "array a[]; for i = 0 to 0\n\t@divides 2 {",
            "array a[]; for i = max(0 @divides 2) to 3 {", "params n; context 0 - 0 @divides n;",
            "array a[]; a[1] = f(a[0 @divides 2]);", "array a[]; for i = 1 to min(2, 0 @divides",
        )
        self.check(
            UNEXPECTED, "params n; array a[]; a[1 @divides n] = f();", "array a; @divides 0;",
            "array a[]; a[@divides] = f();", "context 0 >= 1 @divides 2;",
            "context 10 + 20 @divides 2;", "params n; context 0 * n @divides 2;", "@divides",
            "array a[]; a[0 - @divides 2] = f();", "array a[@0 divides 2];",
        )

    def test_nested_too_deeply(self):
        conditional = "if 0 >= 0 {\n"
        self.check(
            DEEP, "array a; " + conditional * 6 + "if 0 >= 0 @{ a = f(); }",
            "array a; " + conditional * 6 + "for i = 0 to 1 @{",
            "array a; " + conditional * 3 + "for i = 0 to 1 { for j = 0 to 1 { for k = 0 to 1 {"
            + "for l = 0 to 1 @{ a = f(); } } } }" + "}" * 3,
            "array a; " + conditional * 5 + "if 1 >= 0 { a = f(); } if 2 >= 0 { if 1 >= 0 @{",
            "array a; " + conditional * 6 + "if 0 >= 0 @{}",
        )

    def test_a_bracket_with_six_open_where_it_may_not_stand(self):
        head = "array a, b[]; " + "if 1 >= 0 { " * 6
        texts = (
            "@{", "a = f(); @{", "a @{", "a = @{", "a = f@{", "a = f(@{", "a = f(a@{", "a = f()@{",
            "b@{", "b[@{", "b[1@{", "b[1 + @{", "b[1] = f(b[2 @{", "for @{", "for i @{", "for i = @{",
            "for i = 0 @{", "for i = 0 to @{", "for i = max@{", "for i = max(1, @{", "if @{", "if 0 @{",
            "if 0 >= @{", "if 0 >= 0 and @{", "if 2 divides @{", "if 0 @{", "if 0 >= 0 @{",
            "a = f(); } a = g(); if 1 >= 0 { a @{", "a = f(); } for i = 0 to 1 { if @{",
        )
        self.check(DEEP, *[head + text for text in texts])
        self.check(UNEXPECTED, *[head.replace("if 1 >= 0 { ", "", 1) + text for text in texts[:25]])
        self.check(UNEXPECTED, head + "a = f(); } @{", head + "@;", head + "if 0 >= 0 @;")
        self.check(AT_LEAST_1, head + "b[0 @divides {", head + "if 0 >= 0 @divides 2 {")

    def test_six_brackets_are_not_too_many(self):
        inner = "if 0 >= 0 { " * 6 + "a = f(); " + "} " * 6
        with self.assertRaises(TooLarge):
            Program.parse("array a; " + inner)
        with self.assertRaises(TooLarge):
            Program.parse("array a; " + inner + inner.replace("f(", "g("))
        self.check(UNEXPECTED, "array a; " + "if 0 >= 0 { " * 6 + "a = f(); " + "} " * 6 + "@}")

    def test_brackets_that_are_closed_do_not_count(self):
        text = "array a; if 0 >= 0 { for i = 0 to 1 { if i >= 0 { a = f(); } if i > 0 { a = g(); } } }"
        self.assertEqual(len(Program.parse(text).statements), 2)
        names = "abcdefgh"
        many = " ".join([f"if 0 >= 0 {{ s = {name}(); }}" for name in names])
        with self.assertRaises(TooLarge):
            Program.parse("array s; " + many)

    def test_empty_bodies(self):
        self.check(
            EMPTY, "if 0 >= 0 { @}", "for i = 0 to 1 {@}", "for i = 0 to 1 {\n\t@}",
            "array a; for i = 0 to 1 { a = f(); if i > 0 { @} }",
            "if 0 >= 0 { if 0 >= 0 { @} }", "if 0 >= 0 {" * 6 + "@}",
        )


class OrderOfFaultsTest(FaultsTest):
    def test_the_first_sign_is_reported(self):
        self.check(UNEXPECTED, "params @; array a, a;", "params n, @for, n;")
        self.check(USED, "params n, @n; context 0 divides m;", "array a, @a; b = f();")
        self.check(UNKNOWN, "params n; context @m >= 0 and 0 divides n;")
        self.check(AT_LEAST_1, "params n; context 0 @divides m;")
        self.check(EMPTY, "array a; if 0 >= 0 { @} b = f();")
        self.check(UNKNOWN, "array a; a = f(); @b = f();")
        self.check(USED, "array a; a = f(); a = @f(b);")

    def test_faults_of_characters_come_first(self):
        self.check("unexpected character", "params ; array a, a; @!")
        self.check("name too long", "params n, n;\n" + "a" * 20 + "@a = f();")
        self.check("number too long", "context 0 divides 1; x\n  123456789@0")
        self.check("unexpected character", "params\n @.")

    def test_faults_come_ahead_of_what_is_too_large(self):
        self.check(UNEXPECTED, "params a, b, c, d @a;", "array a[,,], b; b = f() @")
        self.check(UNKNOWN, "params n; context 9 * n >= 999 and 2 * @m >= 0;")
        self.check(USED, "params a, b, c, @b;")
        self.check(AT_LEAST_1, "params n; context 99 divides n and 0 @divides n;")
        self.check(EMPTY, "params a, b, c; for i = 0 to 500 { @}")


if __name__ == "__main__":
    unittest.main()
