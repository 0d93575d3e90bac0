"""Point 40: the witness of a fault, and what it shows."""

import unittest

from loopworks.choosing import settle
from loopworks.errors import BadFolding
from loopworks.faults import Faults
from loopworks.schedules import is_before, is_execution
from loopworks.tags import dataflow, ends, trace
from loopworks.witnesses import shown, witness
from tests.cases import made, random_cases

CHAIN = "params n; array a[]; for i = 0 to n { a[i] = f(a[i - 1]); }"
LAST = "params n; array s; for i = 0 to n { s = f(); }"
PAIR = "params n; temp b[]; array a[]; for i = 0 to n { b[i] = f(); a[i] = g(b[i]); }"


def values(order):
    return [(s,) + point for s, point in order]


def made_by(s, *point):
    return ("made", s, point)


class KindsTest(unittest.TestCase):
    def check(self, case, fault, order, tags, folding=()):
        nest, schedule = made(*case)
        self.assertIn(fault, Faults(nest, schedule, folding=folding))
        self.assertEqual(values(witness(nest, schedule, fault, folding=folding)), order)
        self.assertEqual(shown(nest, schedule, fault, folding=folding), tags)

    def test_ending(self):
        self.check(
            (LAST, (2,), "rows par; f: i;"), ("ending", (0, (2,)), None, (0, (1,))),
            [(0, 2), (0, 0), (0, 1)], (made_by(0, 2), made_by(0, 1)),
        )
        self.check(
            (LAST, (3,), "rows seq; f: floor(i, 2);"), ("ending", (0, (3,)), None, (0, (2,))),
            [(0, 0), (0, 1), (0, 3), (0, 2)], (made_by(0, 3), made_by(0, 2)),
        )

    def test_early(self):
        self.check(
            (CHAIN, (2,), "rows par; f: i;"), ("early", (0, (2,)), 0, (0, (1,))),
            [(0, 2), (0, 0), (0, 1)], (made_by(0, 1), ("start", 0, (1,))),
        )
        self.check(
            (CHAIN, (2,), "rows seq; f: -i;"), ("early", (0, (1,)), 0, (0, (0,))),
            [(0, 2), (0, 1), (0, 0)], (made_by(0, 0), ("start", 0, (0,))),
        )
        self.check(
            (CHAIN, (3,), "rows seq; f: floor(i + 1, 2);"), ("early", (0, (2,)), 0, (0, (1,))),
            [(0, 0), (0, 2), (0, 1), (0, 3)], (made_by(0, 1), ("start", 0, (1,))),
        )

    def test_elsewhere(self):
        text = "params n; temp b[]; array a[]; for i = 0 to n { a[i] = f(b[i]); }"
        self.check(
            (text, (3,), "rows seq; f: -i;"), ("elsewhere", (0, (2,)), 0, None),
            [(0, 3), (0, 2), (0, 1), (0, 0)], (("start", 0, (2,)), ("start", 0, (0,))), ((2,),),
        )

    def test_overwritten_with_a_writer(self):
        schedule = "rows par, seq; f: i, 0; g: i, 1;"
        self.check(
            (PAIR, (2,), schedule), ("overwritten", (1, (2,)), 0, (0, (0,))),
            [(0, 2), (0, 0), (1, 0), (0, 1), (1, 1), (1, 2)], (made_by(0, 2), made_by(0, 0)),
            ((2,),),
        )
        self.check(
            (PAIR, (2,), "rows seq; f: 0; g: 1;"), ("overwritten", (1, (0,)), 0, (0, (2,))),
            [(0, 0), (0, 2), (0, 1), (1, 0), (1, 1), (1, 2)], (made_by(0, 0), made_by(0, 2)),
            ((2,),),
        )

    def test_what_is_before_the_other_one_comes_ahead_of_it(self):
        text = (
            "params n; temp b[], s; array a[]; for i = 0 to n { b[i] = f(); s = g(); a[i] = h(b[i]); }"
        )
        schedule = "rows par, seq; f: i, 1; g: i, 0; h: i, 2;"
        self.check(
            (text, (1,), schedule), ("overwritten", (2, (1,)), 0, (0, (0,))),
            [(1, 1), (0, 1), (1, 0), (0, 0), (2, 0), (2, 1)], (made_by(0, 1), made_by(0, 0)),
            ((1,),),
        )

    def test_overwritten_without_a_writer(self):
        text = "params n; array a[]; for i = 0 to n { a[i] = f(a[i + 1]); }"
        self.check(
            (text, (2,), "rows par; f: i;"), ("overwritten", (0, (0,)), 0, (0, (1,))),
            [(0, 1), (0, 0), (0, 2)], (("start", 0, (1,)), made_by(0, 1)),
        )
        self.check(
            (text, (3,), "rows seq; f: floor(i, 2);"), ("overwritten", (0, (2,)), 0, (0, (3,))),
            [(0, 0), (0, 1), (0, 3), (0, 2)], (("start", 0, (3,)), made_by(0, 3)),
        )

    def test_the_second_read(self):
        text = "params n; array a[], s; s = f(); for i = 0 to n { a[i] = g(a[9], s); }"
        self.check(
            (text, (0,), "rows; f:; g:;"), ("early", (1, (0,)), 1, (0, ())),
            [(1, 0), (0,)], (made_by(0), ("start", 1, ())),
        )


class ResultsTest(unittest.TestCase):
    def test_new_lists(self):
        nest, schedule = made(CHAIN, (2,), "rows par; f: i;")
        fault = Faults(nest, schedule).first
        witness(nest, schedule, fault).clear()
        self.assertEqual(len(witness(nest, schedule, fault)), 3)
        self.assertEqual(len(nest.instances), 3)

    def test_bad_foldings(self):
        nest, schedule = made(PAIR, (2,), "rows; f:; g:;")
        fault = Faults(nest, schedule).first
        for folding in (((), (1,)), ((17,),), ((1, 1),)):
            with self.assertRaises(BadFolding):
                witness(nest, schedule, fault, folding=folding)
            with self.assertRaises(BadFolding):
                shown(nest, schedule, fault, folding=folding)


def witness_by_words(nest, schedule, fault):
    """Point 40, word by word."""
    kind, x, read, other = fault
    leaders = {"elsewhere": [], "ending": [x], "early": [x], "overwritten": [other]}[kind]
    if kind == "overwritten":
        w = nest.writer(nest.cells_read(x)[read], x)
        leaders = leaders if w is None else [w, other]
    order = []
    for leader in leaders + [None]:
        left = [z for z in nest if z not in order]
        if leader is not None:
            left = [z for z in left if z == leader or is_before(schedule, nest.sizes, z, leader)]
        order += settle(nest, schedule, left)
    return order


class AllFaultsTest(unittest.TestCase):
    def test_all_faults_of_many_cases(self):
        kinds = []
        for nest, schedule, folding in random_cases(40, 250, 10):
            meant = dict(dataflow(nest))
            cells = dict(ends(nest, trace(nest, list(nest))[1]))
            for fault in Faults(nest, schedule, folding=folding):
                order = witness(nest, schedule, fault, folding=folding)
                self.assertEqual(order, witness_by_words(nest, schedule, fault))
                self.assertTrue(is_execution(nest, schedule, order))
                in_program, in_witness = shown(nest, schedule, fault, folding=folding)
                self.assertNotEqual(in_program, in_witness)
                found, places = trace(nest, order, folding=folding)
                kind, x, read, _ = fault
                if read is None:
                    cell = nest.written(x)
                    self.assertEqual((in_program, in_witness), (cells[cell], places[cell]))
                else:
                    tags = dict(found)[x][read]
                    self.assertEqual((in_program, in_witness), (meant[x][read], tags))
                kinds.append((kind, in_program[0]))
        for kind in ("ending", "early", "overwritten"):
            self.assertGreater(kinds.count((kind, "made")), 40, kind)
        for kind in ("elsewhere", "overwritten"):
            self.assertGreater(kinds.count((kind, "start")), 40, kind)


if __name__ == "__main__":
    unittest.main()
