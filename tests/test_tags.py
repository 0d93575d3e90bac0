"""Points 36 and 37: tags, the dataflow of a program, and traces."""

import unittest
from itertools import permutations

from loopworks.choosing import choose, choose_fine
from loopworks.errors import BadFolding
from loopworks.foldings import place_of
from loopworks.keeping import is_kept
from loopworks.nests import Nest
from loopworks.programs import Program
from loopworks.tags import dataflow, ends, trace, trace_fine
from tests.cases import random_cases

CHAIN = "params n; array a[]; for i = 0 to n { a[i] = f(a[i - 1]); }"
SELF = "params n; array a[]; for i = 0 to n { a[i] = f(a[i]); a[0] = g(a[i], a[1]); }"
BUFFER = "params n; temp b[]; array a[]; for i = 0 to n { b[i] = f(); a[i] = g(b[i], b[i - 1]); }"


def nest_of(text, *sizes):
    return Nest(Program.parse(text), sizes)


def made(s, *point):
    return ("made", s, point)


def start(array, *index):
    return ("start", array, index)


class DataflowTest(unittest.TestCase):
    def test_what_nobody_writes_and_what_earlier_ones_write(self):
        self.assertEqual(
            dataflow(nest_of(CHAIN, 2)),
            [
                ((0, (0,)), (start(0, -1),)), ((0, (1,)), (made(0, 0),)),
                ((0, (2,)), (made(0, 1),)),
            ],
        )

    def test_what_the_same_instance_writes_is_not_read(self):
        self.assertEqual(
            dataflow(nest_of("array s; s = f(s);")), [((0, ()), (start(0),))]
        )
        self.assertEqual(
            dataflow(nest_of(SELF, 1)),
            [
                ((0, (0,)), (start(0, 0),)), ((1, (0,)), (made(0, 0), start(0, 1))),
                ((0, (1,)), (start(0, 1),)), ((1, (1,)), (made(0, 1), made(0, 1))),
            ],
        )

    def test_what_is_written_later_is_not_read(self):
        text = "params n; array a[]; for i = 0 to n { a[i] = f(a[i + 1]); }"
        self.assertEqual(
            dataflow(nest_of(text, 1)),
            [((0, (0,)), (start(0, 1),)), ((0, (1,)), (start(0, 2),))],
        )

    def test_no_reads_and_no_instances(self):
        text = "params n; array a[]; for i = 0 to n { a[i] = f(); }"
        self.assertEqual(dataflow(nest_of(text, 0)), [((0, (0,)), ())])
        self.assertEqual(dataflow(nest_of(text, -1)), [])

    def test_two_arrays(self):
        self.assertEqual(
            dataflow(nest_of(BUFFER, 1))[3],
            ((1, (1,)), (made(0, 1), made(0, 0))),
        )
        self.assertEqual(
            dataflow(nest_of(BUFFER, 1))[1],
            ((1, (0,)), (made(0, 0), start(0, -1))),
        )

    def test_new_lists(self):
        nest = nest_of(CHAIN, 2)
        dataflow(nest).clear()
        self.assertEqual(len(dataflow(nest)), 3)


class TraceTest(unittest.TestCase):
    def test_the_order_of_the_program(self):
        nest = nest_of(CHAIN, 2)
        found, places = trace(nest, list(nest))
        self.assertEqual(found, dataflow(nest))
        self.assertEqual(
            places, {(0, (0,)): made(0, 0), (0, (1,)): made(0, 1), (0, (2,)): made(0, 2)}
        )
        self.assertEqual(list(places), [(0, (0,)), (0, (1,)), (0, (2,))])

    def test_another_order(self):
        nest = nest_of(CHAIN, 2)
        order = [(0, (1,)), (0, (2,)), (0, (0,))]
        self.assertEqual(
            trace(nest, order)[0],
            [
                ((0, (1,)), (start(0, 0),)), ((0, (2,)), (made(0, 1),)),
                ((0, (0,)), (start(0, -1),)),
            ],
        )
        self.assertEqual(order, [(0, (1,)), (0, (2,)), (0, (0,))])

    def test_foldings(self):
        nest = nest_of(BUFFER, 2)
        found, places = trace(nest, list(nest), folding=((2,),))
        self.assertEqual(
            [tags for _, tags in found],
            [(), (made(0, 0), start(0, 1)), (), (made(0, 1), made(0, 0)), (), (made(0, 2), made(0, 1))],
        )
        self.assertEqual(
            places,
            {
                (0, (0,)): made(0, 2), (1, (0,)): made(1, 0), (0, (1,)): made(0, 1),
                (1, (1,)): made(1, 1), (1, (2,)): made(1, 2),
            },
        )
        found, _ = trace(nest, list(nest), folding=((1,), ()))
        self.assertEqual(found[1], ((1, (0,)), (made(0, 0), made(0, 0))))
        self.assertEqual(found[5], ((1, (2,)), (made(0, 2), made(0, 2))))

    def test_the_start_is_that_of_the_place(self):
        nest = nest_of("params n; temp b[]; array a; a = f(b[n]);", 5)
        self.assertEqual(trace(nest, list(nest), folding=((3,),))[0], [((0, ()), (start(0, 2),))])
        self.assertEqual(trace(nest, list(nest), folding=((0,),))[0], [((0, ()), (start(0, 5),))])
        self.assertEqual(trace(nest, list(nest))[0], dataflow(nest))

    def test_an_instance_reads_ahead_of_its_write(self):
        nest = nest_of("array s; s = f(s, s);")
        self.assertEqual(
            trace(nest, list(nest)), ([((0, ()), (start(0), start(0)))], {(0, ()): made(0)})
        )

    def test_some_instances_alone(self):
        nest = nest_of(CHAIN, 2)
        self.assertEqual(trace(nest, []), ([], {}))
        self.assertEqual(
            trace(nest, [(0, (2,))]), ([((0, (2,)), (start(0, 1),))], {(0, (2,)): made(0, 2)})
        )

    def test_new_results(self):
        nest = nest_of(CHAIN, 2)
        found, places = trace(nest, list(nest))
        found.clear()
        places.clear()
        found, places = trace(nest, list(nest))
        self.assertEqual((len(found), len(places)), (3, 3))


class TraceFineTest(unittest.TestCase):
    def test_single_accesses(self):
        nest = nest_of(CHAIN, 1)
        accesses = [(0, (1,), 0), (0, (0,), 0), (0, (0,), None), (0, (1,), None)]
        self.assertEqual(
            trace_fine(nest, accesses),
            (
                [((0, (1,), 0), start(0, 0)), ((0, (0,), 0), start(0, -1))],
                {(0, (0,)): made(0, 0), (0, (1,)): made(0, 1)},
            ),
        )
        self.assertEqual(len(accesses), 4)

    def test_reads_of_one_instance_may_differ(self):
        text = "params n; array s, a[]; for i = 0 to n { s = f(); a[i] = g(s, s); }"
        nest = nest_of(text, 1)
        accesses = [
            (0, (0,), None), (1, (0,), 1), (0, (1,), None), (1, (0,), 0), (1, (0,), None),
            (1, (1,), 0), (1, (1,), 1), (1, (1,), None),
        ]
        self.assertEqual(
            trace_fine(nest, accesses)[0],
            [
                ((1, (0,), 1), made(0, 0)), ((1, (0,), 0), made(0, 1)),
                ((1, (1,), 0), made(0, 1)), ((1, (1,), 1), made(0, 1)),
            ],
        )

    def test_foldings(self):
        nest = nest_of(BUFFER, 1)
        accesses = [(0, (0,), None), (0, (1,), None), (1, (0,), 0), (1, (0,), 1)]
        self.assertEqual(
            trace_fine(nest, accesses, folding=((1,),)),
            ([((1, (0,), 0), made(0, 1)), ((1, (0,), 1), made(0, 1))], {(0, (0,)): made(0, 1)}),
        )

    def test_as_a_trace_of_instances(self):
        for nest, schedule, folding in random_cases(36, 60, 8):
            order = choose(nest, schedule, [2, 1, 3, 0, 1])
            accesses = []
            for s, point in order:
                accesses += [(s, point, k) for k in range(len(nest.program.statements[s].reads))]
                accesses.append((s, point, None))
            found, places = trace(nest, order, folding=folding)
            fine, fine_places = trace_fine(nest, accesses, folding=folding)
            self.assertEqual([tag for _, tag in fine], [tag for _, tags in found for tag in tags])
            self.assertEqual(list(fine_places.items()), list(places.items()))


class BadFoldingsTest(unittest.TestCase):
    def test_they_raise(self):
        for text in (BUFFER, BUFFER.replace("n;", "n; context n >= 7;", 1)):
            nest = nest_of(text, 7)
            for folding in (((), (1,)), ((17,),), ((-1,),), ((1, 1),), ((), (), ()), ((0,), (2,))):
                with self.assertRaises(BadFolding):
                    trace(nest, list(nest), folding=folding)
                with self.assertRaises(BadFolding):
                    trace_fine(nest, [], folding=folding)
                with self.assertRaises(BadFolding):
                    trace(nest, [], folding=folding)


class EndsTest(unittest.TestCase):
    def test_arrays_that_are_not_temporary_alone(self):
        nest = nest_of(BUFFER, 1)
        _, places = trace(nest, list(nest))
        self.assertEqual(ends(nest, places), [((1, (0,)), made(1, 0)), ((1, (1,)), made(1, 1))])

    def test_the_order_of_the_last_writes(self):
        text = "params n; array a[]; for i = 0 to n { a[n - i] = f(); a[2] = g(); }"
        nest = nest_of(text, 2)
        _, places = trace(nest, list(nest))
        self.assertEqual(
            ends(nest, places),
            [((0, (1,)), made(0, 1)), ((0, (0,)), made(0, 2)), ((0, (2,)), made(1, 2))],
        )

    def test_another_order(self):
        nest = nest_of("params n; array s; for i = 0 to n { s = f(); }", 2)
        _, places = trace(nest, list(nest)[::-1])
        self.assertEqual(ends(nest, places), [((0, ()), made(0, 0))])

    def test_the_start_of_what_is_not_in_the_dict(self):
        nest = nest_of(BUFFER, 1)
        self.assertEqual(ends(nest, {}), [((1, (0,)), start(1, 0)), ((1, (1,)), start(1, 1))])
        places = {(1, (1,)): made(1, 1), (0, (0,)): made(0, 0), (1, (9,)): made(1, 9)}
        self.assertEqual(ends(nest, places), [((1, (0,)), start(1, 0)), ((1, (1,)), made(1, 1))])
        self.assertEqual(len(places), 3)

    def test_nothing_is_written(self):
        self.assertEqual(ends(nest_of(BUFFER, -1), {}), [])
        self.assertEqual(ends(nest_of(BUFFER.replace("array", "temp"), 2), {}), [])


def trace_by_words(nest, order, folding):
    """Point 36, word by word: the last one ahead that writes at the place."""
    found = []
    for at, x in enumerate(order):
        tags = []
        for cell in nest.cells_read(x):
            place = place_of(folding, cell)
            makers = [z for z in order[:at] if place_of(folding, nest.written(z)) == place]
            tags.append(("made",) + makers[-1] if makers else ("start",) + place)
        found.append((x, tuple(tags)))
    return found


class AllTagsTest(unittest.TestCase):
    def test_by_the_words(self):
        for nest, schedule, folding in random_cases(37, 100, 12):
            for order in (list(nest), choose(nest, schedule, [5, 3, 1, 4]), list(nest)[::-2]):
                found, places = trace(nest, order, folding=folding)
                self.assertEqual(found, trace_by_words(nest, order, folding))
                lasts = {place_of(folding, nest.written(x)): ("made",) + x for x in order}
                self.assertEqual(places, lasts)
            self.assertEqual(trace_by_words(nest, list(nest), ()), dataflow(nest))

    def test_what_is_kept_has_the_tags_of_the_program(self):
        """Point 33; that something differs if not everything is kept, witnesses show."""
        kept = []
        for nest, schedule, folding in random_cases(33, 150, 4):
            meant = dataflow(nest), ends(nest, trace(nest, list(nest))[1])
            seen = []
            for choices in permutations(range(len(nest))):
                found, places = trace(nest, choose(nest, schedule, choices), folding=folding)
                seen.append((sorted(found), ends(nest, places)) == (sorted(meant[0]), meant[1]))
            if is_kept(nest, schedule, folding=folding):
                self.assertTrue(all(seen))
                self.check_fine(nest, schedule, folding, meant)
            kept.append(is_kept(nest, schedule, folding=folding))
        self.assertGreater(kept.count(True), 20)
        self.assertGreater(kept.count(False), 20)

    def check_fine(self, nest, schedule, folding, meant):
        tags = {(s, point, k): tag for (s, point), row in meant[0] for k, tag in enumerate(row)}
        for first in range(6):
            accesses = choose_fine(nest, schedule, [first, 7, first + 1, 3, 2])
            found, places = trace_fine(nest, accesses, folding=folding)
            self.assertEqual(dict(found), tags)
            self.assertEqual(ends(nest, places), meant[1])


if __name__ == "__main__":
    unittest.main()
