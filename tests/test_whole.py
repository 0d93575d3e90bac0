"""Points 33, 62, 70 and 78: what is accepted keeps everything, in all executions of the code."""

import random
import unittest

from loopworks.benches import Bench
from loopworks.codes import Code
from loopworks.errors import Outside, TooMany
from loopworks.executing import executed, is_path_before
from loopworks.foldings import place_of
from loopworks.nests import Nest
from loopworks.programs import Program
from loopworks.schedules import Schedule
from loopworks.searching import search
from tests.cases import GROWING, random_folding
from tests.oracle import instances_of
from tests.random_programs import random_program
from tests.test_schedules import random_schedule
from tests.test_searching import KEPT, program_order


def run(accesses, order, folding=()):
    """What each instance of an order reads, and what the places that are written contain at the end.

    The accesses are those of an independent execution of the program. The value that is written
    is made of the instance and of what it has read.
    """
    memory = {}
    reads = {}
    for x in order:
        written, cells = accesses[x]
        values = tuple([
            memory.get(place, ("start", place)) for place in [place_of(folding, cell) for cell in cells]
        ])
        reads[x] = values
        memory[place_of(folding, written)] = hash((x, values))
    return reads, memory


def some_execution(chance, found):
    """Some list of the instances in which none stands ahead of one whose path is before its own."""
    left = list(found)
    order = []
    while left:
        ready = [
            pair for pair in left if not any(is_path_before(other, pair[1]) for _, other in left)
        ]
        pair = chance.choice([ready[0], ready[-1], chance.choice(ready)])
        left.remove(pair)
        order.append(pair[0])
    return order


class WholeTest(unittest.TestCase):
    def check(self, chance, bench, code, sizes):
        """Execute code in several orders, and compare it with the program; True if there is a nest."""
        program = bench.program
        try:
            nest = Nest(program, sizes)
            found = executed(code, sizes)
        except (Outside, TooMany):
            return False
        oracle = instances_of(program.text, sizes)
        accesses = {x: (written, cells) for x, written, cells in oracle}
        reads, memory = run(accesses, [x for x, _, _ in oracle])
        stay = {cell: value for cell, value in memory.items() if not program.arrays[cell[0]][2]}
        self.assertEqual(len(found), len(nest))
        self.assertEqual(bench.problems(sizes), ())
        for _ in range(4):
            order = some_execution(chance, found)
            behind, places = run(accesses, order, bench.folding)
            self.assertEqual(behind, reads)
            self.assertEqual({cell: places[cell] for cell in stay}, stay)
        return True

    def check_bench(self, chance, program, schedule, folding, derivations):
        bench = Bench(program)
        bench.arrange(schedule, folding=folding)
        self.assertIs(bench.submit(derivations), True)
        code = bench.loops()
        again = Code.parse(code.text, program)
        many = 0
        for one in range(-1, 6):
            for other in (0, 3):
                if len(program.parameters) == 2 or other == 0:
                    sizes = (one, other)[:len(program.parameters)]
                    many += self.check(chance, bench, chance.choice([code, again]), sizes)
        return many

    def test_programs_that_are_kept(self):
        chance = random.Random(78)
        for text, rows, folding in KEPT:
            program = Program.parse(text)
            schedule = Schedule.parse(rows, program)
            kind, derivations = search(program, schedule, folding=folding)
            self.assertEqual(kind, "derivations")
            self.check_bench(chance, program, schedule, folding, derivations)

    def test_random_programs(self):
        chance = random.Random(79)
        accepted = 0
        nests = 0
        for _ in range(150):
            text = chance.choice(GROWING) if chance.random() < 0.3 else random_program(chance)
            program = Program.parse(text)
            schedule = program_order(program)
            if schedule is None or chance.random() < 0.6:
                schedule = Schedule.parse(random_schedule(chance, program), program)
            folding = random_folding(chance, program) if chance.random() < 0.5 else ()
            kind, derivations = search(program, schedule, folding=folding, effort=300)
            if kind == "derivations":
                accepted += 1
                nests += self.check_bench(chance, program, schedule, folding, derivations)
        self.assertGreater(accepted, 40)
        self.assertGreater(nests, 80)


if __name__ == "__main__":
    unittest.main()
