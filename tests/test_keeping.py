"""Points 32 and 33: when everything is kept."""

import random
import unittest
from itertools import permutations

from loopworks.errors import BadFolding, Outside, TooMany
from loopworks.foldings import place_of
from loopworks.keeping import is_kept
from loopworks.nests import Nest
from loopworks.programs import Program
from loopworks.schedules import Schedule, is_execution
from tests.cases import SMALL, random_folding
from tests.random_programs import random_program
from tests.test_schedules import random_schedule


def kept(program, sizes, schedule, folding=()):
    program = Program.parse(program)
    return is_kept(Nest(program, sizes), Schedule.parse(schedule, program), folding=folding)


class ReadsWithWritersTest(unittest.TestCase):
    """The first condition of point 32."""

    CHAIN = "params n; array a[]; for i = 0 to n { a[i] = f(a[i - 1]); }"
    PAIR = "params n; temp b[]; array a[]; for i = 0 to n { b[i] = f(); a[i] = g(b[i]); }"

    def test_the_writer_is_before(self):
        self.assertIs(kept(self.CHAIN, (3,), "rows seq; f: i;"), True)
        self.assertIs(kept(self.CHAIN, (3,), "rows seq; f: -i;"), False)
        self.assertIs(kept(self.CHAIN, (3,), "rows par; f: i;"), False)
        self.assertIs(kept(self.CHAIN, (3,), "rows; f:;"), False)
        self.assertIs(kept(self.CHAIN, (0,), "rows; f:;"), True)

    def test_writers_within_one_step(self):
        self.assertIs(kept(self.PAIR, (3,), "rows seq; f: 0; g: 1;"), True)
        self.assertIs(kept(self.PAIR, (3,), "rows seq; f: 1; g: 0;"), False)
        self.assertIs(kept(self.PAIR, (3,), "rows par, seq; f: i, 0; g: i, 1;"), True)
        self.assertIs(kept(self.PAIR, (3,), "rows par, seq; f: i, 0; g: i + 1, 1;"), False)

    def test_places_that_others_write(self):
        in_order = "rows seq, seq; f: i, 0; g: i, 1;"
        self.assertIs(kept(self.PAIR, (3,), in_order, ((1,),)), True)
        self.assertIs(kept(self.PAIR, (3,), in_order, ((2,),)), True)
        apart = "rows seq; f: 0; g: 1;"
        self.assertIs(kept(self.PAIR, (3,), apart, ((4,),)), True)
        self.assertIs(kept(self.PAIR, (3,), apart, ((3,),)), False)
        self.assertIs(kept(self.PAIR, (2,), apart, ((3,),)), True)
        self.assertIs(kept(self.PAIR, (3,), apart), True)

    def test_the_reader_is_before_what_overwrites(self):
        ahead = "rows seq; f: i; g: i + 1;"
        self.assertIs(kept(self.PAIR, (3,), ahead, ((2,),)), True)
        self.assertIs(kept(self.PAIR, (3,), ahead, ((1,),)), False)
        late = "rows seq; f: i; g: i + 2;"
        self.assertIs(kept(self.PAIR, (3,), late, ((3,),)), True)
        self.assertIs(kept(self.PAIR, (3,), late, ((2,),)), False)

    def test_what_is_overwritten_by_an_earlier_instance(self):
        text = "params n; temp s; array a[]; s = f(); s = g(); a[0] = h(s);"
        self.assertIs(kept(text, (0,), "rows seq; f: 0; g: 1; h: 2;"), True)
        self.assertIs(kept(text, (0,), "rows seq; f: 1; g: 0; h: 2;"), False)
        self.assertIs(kept(text, (0,), "rows seq; f: 0; g: 0; h: 2;"), False)
        self.assertIs(kept(text, (0,), "rows seq; f: 2; g: 0; h: 1;"), True)
        self.assertIs(kept(text, (0,), "rows seq; f: 1; g: 0; h: 1;"), False)

    def test_the_reader_may_overwrite_what_it_reads(self):
        text = "params n; temp b[]; array a; b[0] = f(); b[1] = g(b[0]); a = h(b[1]);"
        schedule = "rows seq; f: 0; g: 1; h: 2;"
        self.assertIs(kept(text, (0,), schedule, ((1,),)), True)
        sums = "params n; array s; s = f(); for i = 0 to n { s = g(s); }"
        self.assertIs(kept(sums, (3,), "rows seq; f: -1; g: i;"), True)

    def test_the_second_read_counts(self):
        text = "params n; array a[], b; b = f(); for i = 0 to n { a[i] = g(a[9], b); }"
        self.assertIs(kept(text, (3,), "rows seq; f: 0; g: 1;"), True)
        self.assertIs(kept(text, (3,), "rows seq; f: 0; g: 0;"), False)


class ReadsWithoutWritersTest(unittest.TestCase):
    """The second condition of point 32."""

    AHEAD = "params n; array a[]; for i = 0 to n { a[i] = f(a[i + 1]); }"
    TEMP = "params n; temp b[]; array a; a = f(b[n]);"

    def test_the_reader_is_before_those_that_write(self):
        self.assertIs(kept(self.AHEAD, (3,), "rows seq; f: i;"), True)
        self.assertIs(kept(self.AHEAD, (3,), "rows seq; f: -i;"), False)
        self.assertIs(kept(self.AHEAD, (3,), "rows par; f: i;"), False)
        self.assertIs(kept(self.AHEAD, (3,), "rows seq; f: floor(i, 2);"), False)

    def test_the_reader_itself_may_write(self):
        self.assertIs(kept("array a; a = f(a);", (), "rows; f:;"), True)
        text = "params n; temp b[]; array a; b[0] = f(b[1]);"
        self.assertIs(kept(text, (0,), "rows; f:;", ((2,),)), True)

    def test_the_cell_is_its_own_place(self):
        for size in range(-4, 8):
            self.assertIs(kept(self.TEMP, (size,), "rows; f:;"), True)
            self.assertIs(kept(self.TEMP, (size,), "rows; f:;", ((3,),)), 0 <= size < 3)
            self.assertIs(kept(self.TEMP, (size,), "rows; f:;", ((1,),)), size == 0)
            self.assertIs(kept(self.TEMP, (size,), "rows; f:;", ((0,),)), True)

    def test_places_that_others_write(self):
        text = "params n; temp b[]; array a; b[n] = f(); a = g(b[0]);"
        for size in (1, 2, 3, -1, -2):
            self.assertIs(kept(text, (size,), "rows seq; f: 0; g: 1;"), True)
            self.assertIs(kept(text, (size,), "rows seq; f: 0; g: 1;", ((2,),)), size not in (2, -2))
            self.assertIs(kept(text, (size,), "rows seq; f: 1; g: 0;", ((2,),)), True)


class EndsTest(unittest.TestCase):
    """The third condition of point 32."""

    LAST = "params n; array s; for i = 0 to n { s = f(); }"

    def test_the_last_one_writes_last(self):
        self.assertIs(kept(self.LAST, (3,), "rows seq; f: i;"), True)
        self.assertIs(kept(self.LAST, (3,), "rows seq; f: -i;"), False)
        self.assertIs(kept(self.LAST, (3,), "rows par; f: i;"), False)
        self.assertIs(kept(self.LAST, (0,), "rows par; f: i;"), True)

    def test_the_others_are_in_any_order(self):
        text = "params n; array s; for i = 0 to n { s = f(); } s = g();"
        self.assertIs(kept(text, (3,), "rows seq, par; f: 0, i; g: 1, 0;"), True)
        self.assertIs(kept(text, (3,), "rows seq, seq; f: 0, -i; g: 1, 0;"), True)
        self.assertIs(kept(text, (3,), "rows seq; f: i; g: 3;"), False)
        self.assertIs(kept(text, (3,), "rows seq; f: i; g: 4;"), True)

    def test_temporaries_end_in_any_way(self):
        text = self.LAST.replace("array", "temp")
        self.assertIs(kept(text, (3,), "rows seq; f: -i;"), True)
        self.assertIs(kept(text, (3,), "rows; f:;"), True)

    def test_other_cells_do_not_matter(self):
        text = "params n; array a[]; for i = 0 to n { a[i] = f(); }"
        self.assertIs(kept(text, (3,), "rows; f:;"), True)
        text = "params n; array a[]; for i = 0 to n { a[2 * i] = f(); } a[3] = g(); a[2] = h();"
        self.assertIs(kept(text, (3,), "rows seq; f: 0; g: 0; h: 1;"), True)
        self.assertIs(kept(text, (3,), "rows seq; f: 0; g: 1; h: 0;"), False)


class FoldingsTest(unittest.TestCase):
    TEXT = "params n; temp b[]; array a[]; for i = 0 to n { b[i] = f(); a[i] = g(b[i]); }"

    def test_the_folding_left_out(self):
        program = Program.parse(self.TEXT)
        schedule = Schedule.parse("rows seq; f: 0; g: 1;", program)
        nest = Nest(program, (3,))
        self.assertIs(is_kept(nest, schedule), True)
        self.assertIs(is_kept(nest, schedule, folding=()), True)
        self.assertIs(is_kept(nest, schedule, folding=((0,), (0,))), True)
        self.assertIs(is_kept(nest, schedule, folding=((2,),)), False)

    def test_bad_foldings(self):
        program = Program.parse(self.TEXT)
        for text in ("rows seq; f: 0; g: 1;", "rows; f:; g:;"):
            schedule = Schedule.parse(text, program)
            for folding in (((), (1,)), ((17,),), ((-1,),), ((1, 1),), ((), (), ())):
                with self.assertRaises(BadFolding):
                    is_kept(Nest(program, (3,)), schedule, folding=folding)

    def test_no_instances(self):
        self.assertIs(kept(self.TEXT, (-1,), "rows; f:; g:;", ((1,),)), True)


class Memory:
    """What cells or places contain, as terms that differ wherever values can differ."""

    def __init__(self, nest, folding):
        self.nest = nest
        self.folding = folding
        self.contents = {}

    def content(self, cell):
        place = place_of(self.folding, cell)
        return self.contents.get(place, ("start", place))

    def execute(self, x):
        """Execute an instance; what it reads."""
        reads = tuple([self.content(cell) for cell in self.nest.cells_read(x)])
        self.contents[place_of(self.folding, self.nest.written(x))] = (x, reads)
        return reads

    def run(self, order):
        """What is read by each instance, and what is at the end in cells that are not temporary."""
        reads = {x: self.execute(x) for x in order}
        cells = [self.nest.written(x) for x in order]
        arrays = self.nest.program.arrays
        return reads, {cell: self.content(cell) for cell in cells if not arrays[cell[0]][2]}


def is_kept_by_all_executions(nest, schedule, folding):
    """Point 33, by going through all executions."""
    meant = Memory(nest, ()).run(list(nest))
    for order in permutations(nest):
        if is_execution(nest, schedule, list(order)):
            if Memory(nest, folding).run(order) != meant:
                return False
    return True


class AllExecutionsTest(unittest.TestCase):
    def compare(self, nest, schedule, folding):
        expected = is_kept_by_all_executions(nest, schedule, folding)
        self.assertIs(
            is_kept(nest, schedule, folding=folding), expected,
            (nest.program.text, nest.sizes, schedule.text, folding),
        )
        return expected

    def test_small_programs(self):
        chance = random.Random(33)
        for text in SMALL:
            program = Program.parse(text)
            outcomes = []
            for _ in range(60):
                nest = Nest(program, (chance.randrange(-2, 4),))
                folding = random_folding(chance, program)
                schedule = Schedule.parse(random_schedule(chance, program), program)
                outcomes.append(self.compare(nest, schedule, folding))
            self.assertIn(False, outcomes, text)

    def test_schedules_of_the_program_order(self):
        chance = random.Random(34)
        outcomes = []
        schedules = (
            "rows seq, seq; f: 0, i; g: 1, 0;", "rows seq; f: i; g: n;",
            "rows seq; f: i; g: n + 1;", "rows seq; f: floor(i, 2); g: 2;",
        )
        for text in schedules:
            program = Program.parse(SMALL[0])
            schedule = Schedule.parse(text, program)
            for size in range(-2, 4):
                for _ in range(6):
                    folding = random_folding(chance, program)
                    outcomes.append(self.compare(Nest(program, (size,)), schedule, folding))
        self.assertGreater(outcomes.count(True), 10)
        self.assertGreater(outcomes.count(False), 10)

    def test_random_programs(self):
        chance = random.Random(35)
        outcomes = []
        while len(outcomes) < 250:
            program = Program.parse(random_program(chance))
            sizes = tuple([chance.randrange(-1, 3) for _ in program.parameters])
            try:
                nest = Nest(program, sizes)
            except (Outside, TooMany):
                continue
            if 2 <= len(nest) <= 5:
                schedule = Schedule.parse(random_schedule(chance, program), program)
                folding = random_folding(chance, program)
                outcomes.append(self.compare(nest, schedule, folding))
        self.assertGreater(outcomes.count(True), 25)
        self.assertGreater(outcomes.count(False), 25)


if __name__ == "__main__":
    unittest.main()
