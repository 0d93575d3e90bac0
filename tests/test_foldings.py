"""Points 30 and 31: foldings, and the places of cells."""

import unittest

from loopworks.errors import BadFolding
from loopworks.foldings import check_folding, place_of, same_place
from loopworks.programs import Program

PROGRAM = Program.parse("array a[,]; temp b[,], c[], d;")


class FittingTest(unittest.TestCase):
    def test_foldings_that_fit(self):
        for folding in (
            (), ((),), ((0,),), ((0, 0),), ((), ()), ((), (1,)), ((), (0, 16)), ((), (16, 16)),
            ((0, 0), (2, 3), (4,), ()), ((), (), (), ()), ((0,), (0,), (0,), ()), ((), (), (7,)),
            ((), (0, 5), ()),
        ):
            self.assertIsNone(check_folding(PROGRAM, folding), folding)

    def test_too_many_elements(self):
        for folding in (
            ((), (), (), (), ()), ((0, 0), (2, 3), (4,), (), (0,)), ((),) * 6,
        ):
            self.check_bad(folding)
        with self.assertRaises(BadFolding):
            check_folding(Program.parse(""), ((),))

    def test_too_many_dimensions(self):
        for folding in (
            ((0, 0, 0),), ((), (1, 1, 1)), ((), (0, 0, 0)), ((), (), (1, 0)), ((), (), (), (0,)),
            ((), (), (), (1,)), ((), (), (0, 0)),
        ):
            self.check_bad(folding)

    def test_integers_out_of_range(self):
        for folding in (
            ((), (-1,)), ((), (17,)), ((), (0, 17)), ((), (3, -2)), ((), (), (100,)), ((), (), (-1,)),
        ):
            self.check_bad(folding)

    def test_arrays_that_are_not_temporary(self):
        for folding in (((1,),), ((0, 1),), ((16, 0), (1, 1)), ((-1,),), ((17,),), ((0, 2),)):
            self.check_bad(folding)
        mixed = Program.parse("temp b[]; array a[];")
        self.assertIsNone(check_folding(mixed, ((3,), (0,))))
        with self.assertRaises(BadFolding):
            check_folding(mixed, ((3,), (3,)))

    def check_bad(self, folding):
        with self.assertRaises(BadFolding, msg=str(folding)):
            check_folding(PROGRAM, folding)


class PlacesTest(unittest.TestCase):
    def test_places(self):
        folding = ((), (2, 3), (4,))
        for cell, place in (
            ((0, (7, 9)), (0, (7, 9))), ((1, (7, 9)), (1, (1, 0))), ((1, (2, 3)), (1, (0, 0))),
            ((1, (1, 2)), (1, (1, 2))), ((2, (4,)), (2, (0,))), ((2, (15,)), (2, (3,))),
            ((3, ()), (3, ())),
        ):
            self.assertEqual(place_of(folding, cell), place)

    def test_negative_indices(self):
        self.assertEqual(
            [place_of(((3,),), (0, (index,)))[1][0] for index in range(-7, 8)],
            [2, 0, 1, 2, 0, 1, 2, 0, 1, 2, 0, 1, 2, 0, 1],
        )
        self.assertEqual(place_of(((2, 0),), (0, (-1, -1))), (0, (1, -1)))
        self.assertEqual(place_of((), (0, (-1, -8))), (0, (-1, -8)))

    def test_one_cell_alone(self):
        for index in range(-3, 4):
            self.assertEqual(place_of(((1,),), (0, (index,))), (0, (0,)))

    def test_what_is_missing_is_0(self):
        self.assertEqual(place_of(((5,),), (0, (7, 8))), (0, (2, 8)))
        self.assertEqual(place_of(((0, 5),), (0, (7, 8))), (0, (7, 3)))
        self.assertEqual(place_of(((),), (0, (7, 8))), (0, (7, 8)))
        self.assertEqual(place_of(((5,),), (1, (7, 8))), (1, (7, 8)))

    def test_same_place(self):
        folding = ((2,), (0, 3))
        for one, other, same in (
            ((0, (1,)), (0, (1,)), True), ((0, (1,)), (0, (-5,)), True),
            ((0, (1,)), (0, (2,)), False), ((1, (4, 5)), (1, (4, -1)), True),
            ((1, (4, 5)), (1, (2, 5)), False), ((1, (4, 5)), (1, (4, 6)), False),
            ((0, (1,)), (2, (1,)), False), ((2, (1,)), (2, (1,)), True),
            ((2, (1,)), (2, (3,)), False),
        ):
            self.assertIs(same_place(folding, one, other), same)
            self.assertIs(same_place(folding, other, one), same)


if __name__ == "__main__":
    unittest.main()
