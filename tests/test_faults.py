"""Points 38 and 39: the faults of a schedule and a folding at sizes."""

import unittest

from loopworks.errors import BadFolding
from loopworks.faults import Faults
from loopworks.foldings import same_place
from loopworks.keeping import is_kept
from loopworks.schedules import is_before
from tests.cases import made, random_cases

CHAIN = "params n; array a[]; for i = 0 to n { a[i] = f(a[i - 1]); }"
PAIR = "params n; temp b[]; array a[]; for i = 0 to n { b[i] = f(); a[i] = g(b[i]); }"
LAST = "params n; array s; for i = 0 to n { s = f(); }"
KINDS = ("ending", "elsewhere", "early", "overwritten")


def faults(text, sizes, schedule, folding=()):
    return list(Faults(*made(text, sizes, schedule), folding=folding))


def faults_by_words(nest, schedule, folding):
    """Points 38 and 39, word by word."""
    def before(one, other):
        return is_before(schedule, nest.sizes, one, other)

    found = []
    for x in nest:
        writers = [z for z in nest if nest.written(z) == nest.written(x)]
        if not nest.program.arrays[nest.written(x)[0]][2] and writers[-1] == x:
            found += [("ending", x, None, z) for z in writers[:-1] if not before(z, x)]
        for read, cell in enumerate(nest.cells_read(x)):
            w = nest.writer(cell, x)
            if w is None and not is_own_place(folding, cell):
                found.append(("elsewhere", x, read, None))
            if w is not None and not before(w, x):
                found.append(("early", x, read, w))
            for z in nest:
                if z != x and z != w and same_place(folding, nest.written(z), cell):
                    if not before(x, z) and (w is None or not before(z, w)):
                        found.append(("overwritten", x, read, z))
    return found


def is_own_place(folding, cell):
    numbers = folding[cell[0]] if cell[0] < len(folding) else ()
    return all([m == 0 or 0 <= value < m for m, value in zip(numbers, cell[1])])


class KindsTest(unittest.TestCase):
    def test_none(self):
        self.assertEqual(faults(CHAIN, (3,), "rows seq; f: i;"), [])
        self.assertEqual(faults(CHAIN, (0,), "rows par; f: i;"), [])
        self.assertEqual(faults(CHAIN, (-1,), "rows par; f: i;"), [])
        self.assertEqual(faults(PAIR, (3,), "rows seq, seq; f: i, 0; g: i, 1;", ((1,),)), [])

    def test_ending(self):
        self.assertEqual(
            faults(LAST, (2,), "rows par; f: i;"),
            [("ending", (0, (2,)), None, (0, (0,))), ("ending", (0, (2,)), None, (0, (1,)))],
        )
        self.assertEqual(
            faults(LAST, (3,), "rows seq; f: floor(i, 2);"),
            [("ending", (0, (3,)), None, (0, (2,)))],
        )
        self.assertEqual(faults(LAST, (3,), "rows seq; f: i;"), [])
        self.assertEqual(faults(LAST.replace("array", "temp"), (3,), "rows par; f: i;"), [])

    def test_elsewhere(self):
        text = "params n; temp b[,]; array a; a = f(b[n, 0], b[0, n]);"
        self.assertEqual(
            faults(text, (4,), "rows; f:;", ((3,),)), [("elsewhere", (0, ()), 0, None)]
        )
        self.assertEqual(
            faults(text, (-1,), "rows; f:;", ((3, 2),)),
            [("elsewhere", (0, ()), 0, None), ("elsewhere", (0, ()), 1, None)],
        )
        self.assertEqual(faults(text, (2,), "rows; f:;", ((3, 3),)), [])
        self.assertEqual(faults(text, (4,), "rows; f:;"), [])

    def test_early(self):
        self.assertEqual(
            faults(CHAIN, (2,), "rows par; f: i;"),
            [("early", (0, (1,)), 0, (0, (0,))), ("early", (0, (2,)), 0, (0, (1,)))],
        )
        self.assertEqual(
            faults(CHAIN, (3,), "rows seq; f: floor(i + 1, 2);"),
            [("early", (0, (2,)), 0, (0, (1,)))],
        )
        self.assertEqual(len(faults(CHAIN, (3,), "rows seq; f: -i;")), 3)

    def test_overwritten_with_a_writer(self):
        schedule = "rows seq; f: 0; g: 1;"
        self.assertEqual(
            faults(PAIR, (2,), schedule, ((2,),)),
            [
                ("overwritten", (1, (0,)), 0, (0, (2,))), ("overwritten", (1, (2,)), 0, (0, (0,))),
            ],
        )
        self.assertEqual(faults(PAIR, (1,), schedule, ((2,),)), [])

    def test_overwritten_without_a_writer(self):
        text = "params n; array a[]; for i = 0 to n { a[i] = f(a[i + 1]); }"
        self.assertEqual(
            faults(text, (2,), "rows par; f: i;"),
            [("overwritten", (0, (0,)), 0, (0, (1,))), ("overwritten", (0, (1,)), 0, (0, (2,)))],
        )
        self.assertEqual(faults(text, (2,), "rows seq; f: i;"), [])

    def test_the_instance_itself_does_not_overwrite(self):
        text = "params n; temp b[]; array a; for i = 0 to n { b[i] = f(b[i - 1]); } a = g(b[n]);"
        self.assertEqual(faults(text, (3,), "rows seq; f: i; g: n + 1;", ((1,),))[1:], [])
        self.assertEqual(faults("array a; a = f(a);", (), "rows; f:;"), [])


class OrderTest(unittest.TestCase):
    def test_by_instances_then_reads_then_kinds(self):
        text = (
            "params n; array s, a[]; temp b[]; "
            "for i = 0 to n { s = f(s, b[3 - i]); b[i] = g(s); }"
        )
        found = faults(text, (1,), "rows; f:; g:;", ((), (), (2,)))
        self.assertEqual(
            found,
            [
                ("overwritten", (0, (0,)), 0, (0, (1,))),
                ("elsewhere", (0, (0,)), 1, None),
                ("overwritten", (0, (0,)), 1, (1, (1,))),
                ("early", (1, (0,)), 0, (0, (0,))),
                ("overwritten", (1, (0,)), 0, (0, (1,))),
                ("ending", (0, (1,)), None, (0, (0,))),
                ("early", (0, (1,)), 0, (0, (0,))),
                ("elsewhere", (0, (1,)), 1, None),
                ("overwritten", (0, (1,)), 1, (1, (0,))),
                ("early", (1, (1,)), 0, (0, (1,))),
                ("overwritten", (1, (1,)), 0, (0, (0,))),
            ],
        )

    def test_others_in_the_order_of_the_program(self):
        text = "params n; array s; for i = 0 to n { s = f(); s = g(); } s = h();"
        self.assertEqual(
            [other for _, _, _, other in faults(text, (1,), "rows; f:; g:; h:;")],
            [(0, (0,)), (1, (0,)), (0, (1,)), (1, (1,))],
        )


class FaultsTest(unittest.TestCase):
    def test_its_parts(self):
        nest, schedule = made(CHAIN, (2,), "rows par; f: i;")
        found = Faults(nest, schedule)
        rows = [("early", (0, (1,)), 0, (0, (0,))), ("early", (0, (2,)), 0, (0, (1,)))]
        self.assertEqual(list(found), rows)
        self.assertEqual(list(found), rows)
        self.assertEqual(len(found), 2)
        self.assertEqual(found.first, rows[0])
        self.assertIs(rows[1] in found, True)
        self.assertIs(("early", (0, (2,)), 0, (0, (0,))) in found, False)
        self.assertIs(("ending", (0, (2,)), None, (0, (1,))) in found, False)
        self.assertEqual([x for x in found for _ in found], [rows[0]] * 2 + [rows[1]] * 2)

    def test_none(self):
        found = Faults(*made(CHAIN, (2,), "rows seq; f: i;"))
        self.assertEqual((list(found), len(found), found.first), ([], 0, None))
        self.assertIs(("early", (0, (1,)), 0, (0, (0,))) in found, False)

    def test_a_single_one(self):
        found = Faults(*made(CHAIN, (1,), "rows par; f: i;"))
        self.assertEqual((len(found), found.first), (1, ("early", (0, (1,)), 0, (0, (0,)))))

    def test_a_second_one(self):
        nest, schedule = made(PAIR, (3,), "rows seq; f: 0; g: 1;")
        one = Faults(nest, schedule, folding=((2,),))
        other = Faults(nest, schedule, folding=((3,),))
        again = Faults(nest, schedule, folding=((2,),))
        self.assertEqual(list(one), list(again))
        self.assertNotEqual(list(one), list(other))
        self.assertEqual(len(Faults(nest, schedule)), 0)
        self.assertEqual(len(one), 4)

    def test_bad_foldings(self):
        for sizes in ((3,), (-1,)):
            nest, schedule = made(PAIR, sizes, "rows; f:; g:;")
            for folding in (((), (1,)), ((17,),), ((-1,),), ((1, 1),), ((), (), ())):
                with self.assertRaises(BadFolding):
                    Faults(nest, schedule, folding=folding)


class AllFaultsTest(unittest.TestCase):
    def test_by_the_words(self):
        kinds = []
        for nest, schedule, folding in random_cases(38, 300, 12):
            found = Faults(nest, schedule, folding=folding)
            self.assertEqual(list(found), faults_by_words(nest, schedule, folding))
            self.assertEqual(len(found) == 0, is_kept(nest, schedule, folding=folding))
            self.assertEqual(len(list(found)), len(found))
            kinds += [fault[0] for fault in found]
        for kind in KINDS:
            self.assertGreater(kinds.count(kind), 40, kind)

    def test_several_kinds_together(self):
        together = [
            tuple(sorted({fault[0] for fault in Faults(nest, schedule, folding=folding)}))
            for nest, schedule, folding in random_cases(39, 400, 12)
        ]
        for kind in KINDS:
            self.assertIn((kind,), together)
        self.assertGreater(len([kinds for kinds in together if len(kinds) >= 3]), 50)


if __name__ == "__main__":
    unittest.main()
