"""Points 34 and 35: executions by choices, what is settled, and fine executions."""

import random
import unittest
from itertools import permutations, product

from loopworks.choosing import choose, choose_fine, is_fine_execution, settle
from loopworks.schedules import is_before, is_execution
from tests.cases import made, random_cases

FREE = ("params n; array a[]; for i = 0 to n { a[i] = f(); }", (3,), "rows par; f: i;")
LINE = ("params n; array a[]; for i = 0 to n { a[i] = f(); }", (3,), "rows seq; f: i;")
BACK = ("params n; array a[]; for i = 0 to n { a[i] = f(); }", (3,), "rows seq; f: -i;")
PAIRS = ("params n; array a[]; for i = 0 to n { a[i] = f(); }", (3,), "rows seq; f: floor(i, 2);")
TWO = (
    "params n; temp b[]; array a[]; for i = 0 to n { b[i] = f(); a[i] = g(b[i], b[i - 1]); }", (1,),
    "rows par, seq; f: i, 0; g: i, 1;",
)
EMPTY = ("params n; array a[]; for i = 0 to n { a[i] = f(); }", (-1,), "rows seq; f: i;")


def values(order):
    """The values of the single loop of the only statement."""
    return [point[0] for _, point in order]


def chosen_by_words(things, must_precede, choices):
    """Point 34, word by word."""
    left, order = list(things), []
    for step in range(len(things)):
        ready = [x for x in left if not any(must_precede(z, x) for z in left if z != x)]
        choice = choices[step] if step < len(choices) else 0
        order.append(ready[choice % len(ready)])
        left = [x for x in left if x != order[-1]]
    return order


def accesses_by_words(nest):
    found = []
    for s, point in nest:
        found += [(s, point, read) for read in range(len(nest.program.statements[s].reads))]
        found.append((s, point, None))
    return found


def precedes(nest, schedule):
    """A function that says whether one access must precede another one."""
    def must_precede(one, other):
        if one[:2] == other[:2]:
            return other[2] is None and one[2] is not None
        return is_before(schedule, nest.sizes, one[:2], other[:2])
    return must_precede


class ChooseTest(unittest.TestCase):
    def test_no_choices(self):
        self.assertEqual(values(choose(*made(*FREE), [])), [0, 1, 2, 3])
        self.assertEqual(values(choose(*made(*LINE), [])), [0, 1, 2, 3])
        self.assertEqual(values(choose(*made(*BACK), [])), [3, 2, 1, 0])
        self.assertEqual(values(choose(*made(*PAIRS), [])), [0, 1, 2, 3])
        self.assertEqual(
            choose(*made(*TWO), []), [(0, (0,)), (1, (0,)), (0, (1,)), (1, (1,))]
        )

    def test_choices(self):
        self.assertEqual(values(choose(*made(*FREE), [3, 2, 1, 0])), [3, 2, 1, 0])
        self.assertEqual(values(choose(*made(*FREE), [1, 1, 1, 0])), [1, 2, 3, 0])
        self.assertEqual(values(choose(*made(*LINE), [3, 2, 1, 0])), [0, 1, 2, 3])
        self.assertEqual(values(choose(*made(*PAIRS), [1, 0, 1])), [1, 0, 3, 2])
        self.assertEqual(
            choose(*made(*TWO), [1, 1, 0, 0]), [(0, (1,)), (1, (1,)), (0, (0,)), (1, (0,))]
        )

    def test_fewer_choices_than_instances(self):
        self.assertEqual(values(choose(*made(*FREE), [2])), [2, 0, 1, 3])
        self.assertEqual(values(choose(*made(*FREE), [2, 2])), [2, 3, 0, 1])
        self.assertEqual(values(choose(*made(*PAIRS), [1])), [1, 0, 2, 3])

    def test_more_choices_than_instances(self):
        self.assertEqual(values(choose(*made(*FREE), [2, 2, 0, 0, 7, 9])), [2, 3, 0, 1])
        self.assertEqual(choose(*made(*EMPTY), [2, 1]), [])

    def test_great_choices_are_remainders(self):
        self.assertEqual(values(choose(*made(*FREE), [4, 3, 2, 1])), [0, 1, 2, 3])
        self.assertEqual(values(choose(*made(*FREE), [5, 10 ** 30, 3])), [1, 2, 3, 0])
        self.assertEqual(values(choose(*made(*PAIRS), [10 ** 9 + 1])), [1, 0, 2, 3])

    def test_no_instances(self):
        self.assertEqual(choose(*made(*EMPTY), []), [])
        self.assertEqual(choose_fine(*made(*EMPTY), [3]), [])

    def test_the_choices_stay_and_the_list_is_new(self):
        nest, schedule = made(*FREE)
        choices = [7, 5, 3]
        one, other = choose(nest, schedule, choices), choose(nest, schedule, choices)
        one.clear()
        self.assertEqual(choices, [7, 5, 3])
        self.assertEqual(len(other), 4)
        self.assertEqual(values(nest.instances), [0, 1, 2, 3])

    def test_by_the_words(self):
        chance = random.Random(34)
        for nest, schedule, _ in random_cases(34, 150, 12):
            def before(one, other):
                return is_before(schedule, nest.sizes, one, other)
            choices = [chance.randrange(12) for _ in range(chance.randrange(14))]
            order = choose(nest, schedule, choices)
            self.assertEqual(order, chosen_by_words(nest.instances, before, choices))
            self.assertTrue(is_execution(nest, schedule, order))

    def test_all_executions_are_chosen(self):
        for nest, schedule, _ in random_cases(35, 60, 4):
            reached = [choose(nest, schedule, c) for c in product(range(len(nest)), repeat=len(nest))]
            for order in permutations(nest):
                expected = is_execution(nest, schedule, list(order))
                self.assertIs(list(order) in reached, expected)


class SettleTest(unittest.TestCase):
    def test_some(self):
        nest, schedule = made(*BACK)
        self.assertEqual(settle(nest, schedule, []), [])
        self.assertEqual(values(settle(nest, schedule, nest.instances[::2])), [2, 0])
        self.assertEqual(values(settle(nest, schedule, list(nest)[1:])), [3, 2, 1])
        self.assertEqual(settle(nest, schedule, list(nest)), choose(nest, schedule, []))

    def test_they_are_taken_in_the_order_of_the_program(self):
        nest, schedule = made(*FREE)
        some = [(0, (3,)), (0, (0,)), (0, (2,))]
        self.assertEqual(values(settle(nest, schedule, some)), [0, 2, 3])
        self.assertEqual(some, [(0, (3,)), (0, (0,)), (0, (2,))])

    def test_the_others_do_not_matter(self):
        nest, schedule = made(*PAIRS)
        self.assertEqual(values(settle(nest, schedule, [(0, (2,)), (0, (1,))])), [1, 2])
        nest, schedule = made(*TWO)
        self.assertEqual(
            settle(nest, schedule, [(1, (1,)), (1, (0,)), (0, (1,))]),
            [(1, (0,)), (0, (1,)), (1, (1,))],
        )

    def test_by_the_words(self):
        chance = random.Random(36)
        for nest, schedule, _ in random_cases(36, 100, 10):
            def before(one, other):
                return is_before(schedule, nest.sizes, one, other)
            for some in (list(nest)[::2], [x for x in nest if chance.random() < 0.5], []):
                expected = chosen_by_words(some, before, [])
                self.assertEqual(settle(nest, schedule, some[::-1]), expected)


class ChooseFineTest(unittest.TestCase):
    def test_no_choices(self):
        self.assertEqual(
            choose_fine(*made(*LINE), []), [(0, (value,), None) for value in range(4)]
        )
        self.assertEqual(
            choose_fine(*made(*TWO), []),
            [
                (0, (0,), None), (1, (0,), 0), (1, (0,), 1), (1, (0,), None),
                (0, (1,), None), (1, (1,), 0), (1, (1,), 1), (1, (1,), None),
            ],
        )

    def test_choices(self):
        text = "params n; array a; for i = 0 to n { a = f(a, a); }"
        self.assertEqual(
            choose_fine(*made(text, (0,), "rows; f:;"), [1, 0, 0]),
            [(0, (0,), 1), (0, (0,), 0), (0, (0,), None)],
        )
        # Of 4 reads the last one, then of 3 reads the third; then a write is ready, the second.
        self.assertEqual(
            choose_fine(*made(text, (1,), "rows; f:;"), [3, 5, 2, 0]),
            [(0, (1,), 1), (0, (1,), 0), (0, (1,), None), (0, (0,), 0), (0, (0,), 1), (0, (0,), None)],
        )
        self.assertEqual(
            choose_fine(*made(text, (1,), "rows seq; f: -i;"), [1, 10 ** 20]),
            [(0, (1,), 1), (0, (1,), 0), (0, (1,), None), (0, (0,), 0), (0, (0,), 1), (0, (0,), None)],
        )

    def test_more_and_fewer_choices(self):
        nest, schedule = made(*TWO)
        choices = [1] * 20
        order = choose_fine(nest, schedule, choices)
        self.assertEqual(choices, [1] * 20)
        self.assertEqual(order, choose_fine(nest, schedule, [1] * 8))
        self.assertNotEqual(order, choose_fine(nest, schedule, [1]))
        order.clear()
        self.assertEqual(len(choose_fine(nest, schedule, choices)), 8)

    def test_by_the_words(self):
        chance = random.Random(37)
        for nest, schedule, _ in random_cases(37, 100, 8):
            choices = [chance.randrange(12) for _ in range(chance.randrange(20))]
            order = choose_fine(nest, schedule, choices)
            self.assertEqual(
                order,
                chosen_by_words(accesses_by_words(nest), precedes(nest, schedule), choices),
            )
            self.assertIs(is_fine_execution(nest, schedule, order), True)


class FineExecutionTest(unittest.TestCase):
    def test_all_orders_of_few_accesses(self):
        counts = []
        for nest, schedule, _ in random_cases(38, 200, 3):
            accesses = accesses_by_words(nest)
            if len(accesses) <= 5:
                must_precede = precedes(nest, schedule)
                for order in permutations(accesses):
                    expected = not any(
                        must_precede(order[late], order[early])
                        for late in range(len(order)) for early in range(late)
                    )
                    self.assertIs(is_fine_execution(nest, schedule, list(order)), expected)
                    counts.append(expected)
        self.assertGreater(counts.count(True), 100)
        self.assertGreater(counts.count(False), 100)

    def test_neighbours_exchanged(self):
        nest, schedule = made(*TWO)
        order = choose_fine(nest, schedule, [])
        # f(0) | reads of g(0), its write | f(1) | reads of g(1), its write
        for at, expected in enumerate((False, True, False, True, False, True, False)):
            other = order[:at] + [order[at + 1], order[at]] + order[at + 2:]
            self.assertIs(is_fine_execution(nest, schedule, other), expected, at)

    def test_left_out_or_doubled(self):
        nest, schedule = made(*TWO)
        order = choose_fine(nest, schedule, [1, 2, 3])
        for at in range(len(order)):
            self.assertIs(is_fine_execution(nest, schedule, order[:at] + order[at + 1:]), False)
            self.assertIs(is_fine_execution(nest, schedule, order + [order[at]]), False)
            self.assertIs(is_fine_execution(nest, schedule, [order[at]] + order[1:]), at == 0)
        self.assertIs(is_fine_execution(nest, schedule, []), False)
        self.assertIs(is_fine_execution(*made(*EMPTY), []), True)

    def test_accesses_of_others(self):
        nest, schedule = made(*TWO)
        order = choose_fine(nest, schedule, [])
        for foreign in ((1, (1,), 2), (0, (1,), 0), (1, (2,), None), (2, (1,), None), (1, (), None)):
            self.assertIs(is_fine_execution(nest, schedule, order + [foreign]), False)
            self.assertIs(is_fine_execution(nest, schedule, order[:-1] + [foreign]), False)

    def test_accesses_of_instances_may_be_mixed(self):
        text = "params n; array a; for i = 0 to n { a = f(a); }"
        nest, schedule = made(text, (1,), "rows par; f: i;")
        mixed = [(0, (0,), 0), (0, (1,), 0), (0, (1,), None), (0, (0,), None)]
        self.assertIs(is_fine_execution(nest, schedule, mixed), True)
        self.assertEqual(mixed, [(0, (0,), 0), (0, (1,), 0), (0, (1,), None), (0, (0,), None)])
        nest, schedule = made(text, (1,), "rows seq; f: i;")
        self.assertIs(is_fine_execution(nest, schedule, mixed), False)


if __name__ == "__main__":
    unittest.main()
