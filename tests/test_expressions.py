"""Points 9 and 10: expressions and constraints."""

import unittest

from loopworks.expressions import add, all_hold, holds, multiply, value_at


class ValuesTest(unittest.TestCase):
    def test_values(self):
        self.assertEqual(value_at((2, -3, 5), (7, 4)), 7)
        self.assertEqual(value_at((0, 0, -5), (7, 4)), -5)
        self.assertEqual(value_at((1, 1, 0), (-7, -4)), -11)
        self.assertEqual(value_at((0, 1, 0), (10, 3)), 3)

    def test_expressions_without_variables(self):
        self.assertEqual(value_at((9,), ()), 9)
        self.assertEqual(value_at((-9,), ()), -9)

    def test_integers_have_no_limit(self):
        big = 10 ** 30
        self.assertEqual(value_at((big, 1), (big,)), big * big + 1)

    def test_add(self):
        self.assertEqual(add((1, -2, 3), (4, 2, -10)), (5, 0, -7))
        self.assertEqual(add((4,), (-6,)), (-2,))

    def test_multiply(self):
        self.assertEqual(multiply(3, (1, -2, 3)), (3, -6, 9))
        self.assertEqual(multiply(-1, (1, -2, 0)), (-1, 2, 0))
        self.assertEqual(multiply(0, (1, -2, 3)), (0, 0, 0))
        self.assertEqual(multiply(5, (2,)), (10,))


class ConstraintsTest(unittest.TestCase):
    def test_at_least_0(self):
        for value, held in ((5, True), (1, True), (0, True), (-1, False), (-5, False)):
            self.assertIs(holds(("ge", (1, 0)), (value,)), held)

    def test_equal_to_0(self):
        for value, held in ((5, False), (1, False), (0, True), (-1, False), (-5, False)):
            self.assertIs(holds(("eq", (1, 0)), (value,)), held)

    def test_multiples(self):
        for value in range(-9, 10):
            self.assertIs(holds(("div", 3, (1, 0)), (value,)), value in (-9, -6, -3, 0, 3, 6, 9))
            self.assertIs(holds(("div", 1, (1, 0)), (value,)), True)

    def test_the_constant_counts(self):
        self.assertTrue(holds(("div", 4, (3, 1)), (1,)))
        self.assertFalse(holds(("div", 4, (3, 1)), (2,)))
        self.assertTrue(holds(("eq", (2, 6)), (-3,)))
        self.assertFalse(holds(("ge", (2, -7)), (3,)))
        self.assertTrue(holds(("ge", (2, -6)), (3,)))

    def test_constraints_without_variables(self):
        self.assertTrue(holds(("ge", (0,)), ()))
        self.assertFalse(holds(("ge", (-1,)), ()))
        self.assertTrue(holds(("div", 2, (-4,)), ()))

    def test_all_hold(self):
        held = ("ge", (1, 0))
        broken = ("eq", (1, 1))
        self.assertIs(all_hold((), (3,)), True)
        self.assertIs(all_hold((held, held), (3,)), True)
        self.assertIs(all_hold((held, broken), (3,)), False)
        self.assertIs(all_hold((broken, held), (3,)), False)
        self.assertIs(all_hold([held, ("div", 3, (1, 0))], (3,)), True)
        self.assertIs(all_hold([held, ("div", 2, (1, 0))], (3,)), False)


if __name__ == "__main__":
    unittest.main()
