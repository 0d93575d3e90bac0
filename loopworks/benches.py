"""Benches: a program with a schedule and a folding, and whether they are known to keep everything."""

from loopworks.derivations import accepts
from loopworks.errors import NotArranged
from loopworks.faults import Faults
from loopworks.foldings import check_folding
from loopworks.generating import generate
from loopworks.nests import Nest


class Bench:
    """A program, a schedule or None, a folding, and whether derivations were accepted for them."""

    def __init__(self, program):
        self.program = program
        self.schedule = None
        self.folding = ()
        self.accepted = False

    @property
    def is_arranged(self):
        """True if there is a schedule."""
        return self.schedule is not None

    def arrange(self, schedule, *, folding=()):
        """Take a schedule and a folding, for which nothing is accepted yet."""
        check_folding(self.program, folding)
        self.schedule = schedule
        self.folding = folding
        self.accepted = False

    def submit(self, derivations):
        """True if derivations show that everything is kept; then the bench is accepted."""
        self.need_schedule()
        if not accepts(self.program, self.schedule, derivations, folding=self.folding):
            return False
        self.accepted = True
        return True

    def problems(self, sizes):
        """The faults at sizes."""
        self.need_schedule()
        nest = Nest(self.program, sizes)
        return tuple(Faults(nest, self.schedule, folding=self.folding))

    def loops(self):
        """The generated code."""
        self.need_schedule()
        return generate(self.program, self.schedule)

    def tried(self):
        """A trial: behind its `with` statement, the bench is as it is now."""
        return Trial(self)

    def attempt(self, schedule, derivations, *, folding=()):
        """What submit returns with a schedule and a folding; the bench stays as it is."""
        with self.tried() as bench:
            bench.arrange(schedule, folding=folding)
            return bench.submit(derivations)

    def need_schedule(self):
        if self.schedule is None:
            raise NotArranged("the bench has no schedule")


class Trial:
    """What a bench is when the trial is made, to be restored behind a `with` statement."""

    def __init__(self, bench):
        self.bench = bench
        self.schedule = bench.schedule
        self.folding = bench.folding
        self.accepted = bench.accepted

    def __enter__(self):
        return self.bench

    def __exit__(self, kind, value, trace):
        bench = self.bench
        bench.schedule = self.schedule
        bench.folding = self.folding
        bench.accepted = self.accepted
