"""The examples of the interface, word for word."""

import unittest

from loopworks import errors

EXAMPLES = r"""
>>> from loopworks.signs import read_signs
>>> read_signs("i >= 10;")
[('word', 'i', 1, 1), ('symbol', '>=', 1, 3), ('number', 10, 1, 6), ('symbol', ';', 1, 8)]

>>> from loopworks.signs import read_signs
>>> read_signs("i\n $")
raises TextFault

>>> from loopworks.signs import write_signs
>>> write_signs([("word", "f"), ("symbol", "("), ("number", 7), ("symbol", ")"), ("symbol", ";")])
'f(7);\n'

>>> from loopworks.expressions import holds
>>> holds(("div", 3, (1, 1)), (-4,))
True

>>> from loopworks.programs import Program
>>> program = Program.parse("params n; context n>=1; array a[]; for i=0 to n-1 { a[i]=f(a[i-1]); }")
>>> program.text
'params n;\ncontext n - 1 >= 0;\narray a[];\nfor i = 0 to n - 1 {\n  a[i] = f(a[i - 1]);\n}\n'

>>> from loopworks.programs import Program
>>> program = Program.parse("params n; context n>=1; array a[]; for i=0 to n-1 { a[i]=f(a[i-1]); }")
>>> program.loops, program.statements[0].reads
((('i', ((0, 0),), ((1, -1),), None),), ((0, ((0, 1, -1),)),))

>>> from loopworks.programs import Program
>>> Program.parse("array A[]; A[i] = f();")
raises TextFault

>>> from loopworks.programs import Program
>>> from loopworks.nests import Nest
>>> program = Program.parse("params n; context n>=1; array a[]; for i=0 to n-1 { a[i]=f(a[i-1]); }")
>>> nest = Nest(program, (2,))
>>> list(nest), nest.cells_read((0, (1,))), nest.writer((0, (0,)), (0, (1,)))
([(0, (0,)), (0, (1,))], ((0, (0,)),), (0, (0,)))

>>> from loopworks.programs import Program
>>> from loopworks.schedules import Schedule, time_of
>>> program = Program.parse("params n; array a[]; for i=0 to n { a[i]=f(); }")
>>> schedule = Schedule.parse("rows par,seq; f: floor(i - 3, 2), n - i;", program)
>>> schedule.text, time_of(schedule, (4,), (0, (0,)))
('rows par, seq;\nf: floor(i - 3, 2), n - i;\n', (-2, 4))

>>> from loopworks.foldings import place_of
>>> place_of(((), (3,)), (1, (-1, 5)))
(1, (2, 5))

>>> from loopworks.programs import Program
>>> from loopworks.schedules import Schedule
>>> from loopworks.nests import Nest
>>> from loopworks.faults import Faults
>>> program = Program.parse("params n; context n>=1; array a[]; for i=0 to n-1 { a[i]=f(a[i-1]); }")
>>> schedule = Schedule.parse("rows par; f: i;", program)
>>> Faults(Nest(program, (2,)), schedule).first
('early', (0, (1,)), 0, (0, (0,)))

>>> from loopworks.systems import System
>>> System(2, [("ge", (2, 4, 5)), ("ge", (1, 2, 9)), ("eq", (0, -3, 6))]).reduced().rows
(('ge', (1, 2, 2)), ('eq', (0, 1, -2)))

>>> from loopworks.systems import System
>>> from loopworks.elimination import cases, lift
>>> system = System(2, [("ge", (1, -2, 0)), ("ge", (-1, 2, 1))])
>>> [case.rows for case in cases(system, 0)], lift(system, 0, 0, (4,))
([()], (8, 4))

>>> from loopworks.conditions import eliminate
>>> eliminate([(1, -1, 0), (-1, 2, 3), (0, 2, 7)], 0)
[(0, 1, 3)]

>>> from loopworks.programs import Program
>>> from loopworks.schedules import Schedule
>>> from loopworks.generating import generate
>>> program = Program.parse("params N; context N>=1; temp A[,]; for i=0 to N-1 { for j=0 to N-1 { A[i,j]=S(); } }")
>>> schedule = Schedule.parse("rows seq, par; S: i + j, j;", program)
>>> generate(program, schedule).text
'for t1 = 0 to 2 * N - 2 {\n  parfor t2 = max(0, t1 + 1 - N) to min(N - 1, t1) {\n    S(t1 - t2, t2);\n  }\n}\n'
"""


def outcome(lines):
    """What the last of the lines gives, as an example shows it."""
    names = {}
    for line in lines[:-1]:
        exec(line, names)
    try:
        return repr(eval(lines[-1], names))
    except errors.WorkError as error:
        return f"raises {error.__class__.__name__}"


class ExamplesTest(unittest.TestCase):
    def test_examples(self):
        for example in EXAMPLES.strip().split("\n\n"):
            lines = example.split("\n")
            with self.subTest(example):
                self.assertTrue(all(line.startswith(">>> ") for line in lines[:-1]))
                self.assertEqual(outcome([line[4:] for line in lines[:-1]]), lines[-1])


if __name__ == "__main__":
    unittest.main()
