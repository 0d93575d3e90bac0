"""Points 4 to 8: signs."""

import random
import unittest

from loopworks.signs import end_of, read_signs, write_signs
from tests.helpers import fault_of, marked

SYMBOLS = "<= >= == || , ; : [ ] ( ) { } = + - * < >".split()


def pairs(text):
    return [sign[:2] for sign in read_signs(text)]


def symbols(text):
    return [("symbol", value) for value in text.split()]


class ReadSignsTest(unittest.TestCase):
    def test_the_empty_text_has_no_signs(self):
        for text in ("", " ", "\n", "\t", " \n\t \n"):
            self.assertEqual(read_signs(text), [])

    def test_each_symbol(self):
        for value in SYMBOLS:
            with self.subTest(value):
                self.assertEqual(read_signs(value), [("symbol", value, 1, 1)])
                self.assertEqual(read_signs(f"\n {value} "), [("symbol", value, 2, 2)])

    def test_the_longer_symbol_is_taken(self):
        self.assertEqual(pairs("<=="), symbols("<= ="))
        self.assertEqual(pairs("==="), symbols("== ="))
        self.assertEqual(pairs("===="), symbols("== =="))
        self.assertEqual(pairs("=>"), symbols("= >"))
        self.assertEqual(pairs("=<="), symbols("= <="))
        self.assertEqual(pairs(">>="), symbols("> >="))
        self.assertEqual(pairs("||||"), symbols("|| ||"))
        self.assertEqual(pairs("= ="), symbols("= ="))
        self.assertEqual(pairs("<\n="), symbols("< ="))

    def test_words(self):
        for value in ("a", "Z", "az", "AZ", "a1", "b_", "c_1_D", "for", "x" * 20):
            with self.subTest(value):
                self.assertEqual(read_signs(value), [("word", value, 1, 1)])

    def test_every_character_of_a_word(self):
        letters = "abcdefghijklmnopqrstuvwxyzABCDEFGHIJKLMNOPQRSTUVWXYZ"
        for letter in letters:
            self.assertEqual(pairs(letter), [("word", letter)])
        for inner in letters + "0123456789_":
            self.assertEqual(pairs("q" + inner), [("word", "q" + inner)])

    def test_numbers(self):
        for text, value in (("0", 0), ("7", 7), ("10", 10), ("123456789", 123456789)):
            self.assertEqual(read_signs(text), [("number", value, 1, 1)])
        self.assertEqual(read_signs("999999999"), [("number", 999999999, 1, 1)])

    def test_zeros_in_front_of_a_number(self):
        self.assertEqual(read_signs("007 00"), [("number", 7, 1, 1), ("number", 0, 1, 5)])
        self.assertEqual(read_signs("000000001"), [("number", 1, 1, 1)])

    def test_words_and_numbers_that_touch(self):
        self.assertEqual(
            read_signs("12ab3 "),
            [("number", 12, 1, 1), ("word", "ab3", 1, 3)],
        )
        self.assertEqual(
            read_signs("a[i-1]=f(2*b);"),
            [
                ("word", "a", 1, 1), ("symbol", "[", 1, 2), ("word", "i", 1, 3),
                ("symbol", "-", 1, 4), ("number", 1, 1, 5), ("symbol", "]", 1, 6),
                ("symbol", "=", 1, 7), ("word", "f", 1, 8), ("symbol", "(", 1, 9),
                ("number", 2, 1, 10), ("symbol", "*", 1, 11), ("word", "b", 1, 12),
                ("symbol", ")", 1, 13), ("symbol", ";", 1, 14),
            ],
        )

    def test_a_tab_is_one_character(self):
        self.assertEqual(
            read_signs("\ta\t\tb\n\t \tc"),
            [("word", "a", 1, 2), ("word", "b", 1, 5), ("word", "c", 2, 4)],
        )

    def test_places_on_several_lines(self):
        self.assertEqual(
            read_signs("i <=\n\n  10\nj"),
            [("word", "i", 1, 1), ("symbol", "<=", 1, 3), ("number", 10, 3, 3), ("word", "j", 4, 1)],
        )

    def test_a_newline_ends_a_word_and_a_number(self):
        self.assertEqual(pairs("a\nb"), [("word", "a"), ("word", "b")])
        self.assertEqual(pairs("1\n2\t3 4"), [("number", n) for n in (1, 2, 3, 4)])

    def test_every_list_is_new(self):
        first = read_signs("a;")
        first.append("more")
        self.assertEqual(read_signs("a;"), [("word", "a", 1, 1), ("symbol", ";", 1, 2)])


class CharacterFaultsTest(unittest.TestCase):
    def check(self, text, reason):
        plain, line, column = marked(text)
        self.assertEqual(fault_of(read_signs, plain), (line, column, reason), plain)

    def test_unexpected_characters(self):
        for character in "!\"#$&'./?\\^_`~|%\r\v":
            with self.subTest(character):
                self.check(f"@{character}", "unexpected character")
                self.check(f"a b\n\t@{character}c", "unexpected character")

    def test_characters_beyond_the_texts(self):
        for character in "\u00e9\u00df\u0660\u00b2\u03b1\u00a0":
            with self.subTest(character):
                self.check(f"a @{character}", "unexpected character")
                self.check(f"a@{character}", "unexpected character")
                self.check(f"1@{character}", "unexpected character")

    def test_a_single_vertical_bar(self):
        self.check("@|", "unexpected character")
        self.check("||@|", "unexpected character")
        self.check("a @| |", "unexpected character")
        self.check("@|\n|", "unexpected character")

    def test_an_underscore_begins_no_word(self):
        self.check("@_a", "unexpected character")
        self.check("1@_", "unexpected character")

    def test_words_too_long(self):
        self.check("a" * 20 + "@b", "name too long")
        self.check("\n  " + "a" * 20 + "@b" + "c" * 5, "name too long")
        self.check("x_1" * 6 + "yz@_", "name too long")
        self.check("x " + "a" * 20 + "@1", "name too long")

    def test_numbers_too_long(self):
        self.check("123456789@0", "number too long")
        self.check("000000000@1", "number too long")
        self.check("a\n\n 111111111@1111", "number too long")

    def test_the_first_fault_alone_is_reported(self):
        self.check("@$ " + "a" * 21 + " 1234567890", "unexpected character")
        self.check("a" * 20 + "@a $ 1234567890", "name too long")
        self.check("123456789@0 $ " + "a" * 21, "number too long")
        self.check("a\n@.\n?", "unexpected character")
        self.check("123456789@0" + "a" * 21, "number too long")
        self.check("a" * 20 + "@a$", "name too long")


class WriteSignsTest(unittest.TestCase):
    def check(self, text, normal):
        self.assertEqual(write_signs(pairs(text)), normal)

    def test_no_signs(self):
        self.assertEqual(write_signs([]), "")

    def test_a_newline_ends_the_text(self):
        self.check("a", "a\n")
        self.check("a;", "a;\n")
        self.check("a; b", "a;\nb\n")

    def test_spaces(self):
        self.check("a=b+1-2*c", "a = b + 1 - 2 * c\n")
        self.check("a<=b>=c==d<e>f", "a <= b >= c == d < e > f\n")
        self.check("f ( a , b ) ;", "f(a, b);\n")
        self.check("a [ i , 2 ] = g ( ) ;", "a[i, 2] = g();\n")
        self.check("a : b", "a: b\n")
        self.check("( ( a ) )", "((a))\n")
        self.check("[ [ ] , ] (", "[[],](\n")
        self.check("( - a )", "(- a)\n")
        self.check("= ( a", "=(a\n")
        self.check(") a ] b", ") a] b\n")
        self.check("a , , b", "a,, b\n")
        self.check(", : (", ",:(\n")
        self.check("7 a 8", "7 a 8\n")

    def test_signs_that_end_a_line(self):
        self.check("a ; b { c } d || e", "a;\nb {\n  c }\nd ||\ne\n")
        self.check("; ; ||", ";\n;\n||\n")

    def test_lines_within_curly_brackets(self):
        self.check("a{b{c;}d;}e", "a {\n  b {\n    c;\n  }\n  d;\n}\ne\n")
        self.check("{ { } }", "{\n  {\n  }\n}\n")
        self.check("{ a || b", "{\n  a ||\n  b\n")
        self.check("{ || || } ||", "{\n  ||\n  ||\n}\n||\n")
        self.check("{ ; , a", "{\n  ;\n  , a\n")

    def test_a_bracket_that_closes_within_a_line(self):
        self.check("{ { a } b", "{\n  {\n    a }\n  b\n")

    def test_brackets_that_close_what_is_not_open(self):
        self.check("} }", "}\n}\n")
        self.check("} a { b }", "}\na {\n  b }\n")
        self.check("{ } } { a", "{\n}\n}\n{\n  a\n")
        self.check("a } } {;", "a }\n}\n{\n  ;\n")

    def test_numbers_in_decimal_digits(self):
        self.check("007", "7\n")
        self.assertEqual(write_signs([("number", 123456789)]), "123456789\n")

    def test_the_argument_is_not_changed(self):
        signs = [("word", "a"), ("symbol", "}")]
        write_signs(signs)
        self.assertEqual(signs, [("word", "a"), ("symbol", "}")])

    def test_normal_forms_are_read_back(self):
        chance = random.Random(8)
        words = ["a", "for", "x_1", "T9", "w" * 20]
        for _ in range(400):
            signs = []
            for _ in range(chance.randrange(25)):
                kind = chance.choice(["word", "number", "symbol", "symbol", "symbol"])
                if kind == "word":
                    value = chance.choice(words)
                elif kind == "number":
                    value = chance.choice([0, 1, 42, 999999999])
                else:
                    value = chance.choice(SYMBOLS)
                signs.append((kind, value))
            normal = write_signs(signs)
            self.assertEqual(pairs(normal), signs)
            self.assertEqual(write_signs(pairs(normal)), normal)

    def test_any_two_signs_are_read_back(self):
        signs = symbols(" ".join(SYMBOLS)) + [("word", "a"), ("number", 5)]
        for one in signs:
            for other in signs:
                self.assertEqual(pairs(write_signs([one, other])), [one, other])


class EndTest(unittest.TestCase):
    def test_the_place_behind_the_last_character(self):
        for text, place in (
            ("", (1, 1)), ("a", (1, 2)), ("abc ", (1, 5)), ("a\n", (2, 1)), ("\n\n", (3, 1)),
            ("a\n\tb", (2, 3)), ("\t", (1, 2)),
        ):
            self.assertEqual(end_of(text), place)


if __name__ == "__main__":
    unittest.main()
