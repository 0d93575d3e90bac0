"""The faults of a schedule and a folding at sizes: what is read or left wrongly."""

from loopworks.foldings import check_folding, place_of
from loopworks.keeping import writers_of_places
from loopworks.schedules import Times


class Faults:
    """The faults at the sizes of a nest, in their order."""

    def __init__(self, nest, schedule, *, folding=()):
        check_folding(nest.program, folding)
        times = Times(nest, schedule)
        writers = writers_of_places(nest, folding)
        found = []
        for x in nest.instances:
            found.extend(faults_at_end(nest, times, x))
            for read, cell in enumerate(nest.cells_read(x)):
                w = nest.writer(cell, x)
                place = place_of(folding, cell)
                found.extend(faults_of_source(times, x, read, w, place == cell))
                found.extend(faults_of_others(times, x, read, w, writers.get(place, [])))
        self.rows = tuple(found)

    def __iter__(self):
        return iter(self.rows)

    def __len__(self):
        return len(self.rows)

    def __contains__(self, x):
        return x in self.rows

    @property
    def first(self):
        """The first fault, or None."""
        return self.rows[0] if len(self.rows) > 0 else None


def faults_at_end(nest, times, x):
    """The faults "ending" of an instance."""
    cell = nest.written(x)
    temporary = nest.program.arrays[cell[0]][2]
    if temporary or nest.last_writer(cell) != x:
        return []
    return [
        ("ending", x, None, z)
        for z in nest.instances
        if z != x and nest.written(z) == cell and not times.is_before(z, x)
    ]


def faults_of_source(times, x, read, w, is_own_place):
    """The fault "elsewhere" or "early" of a read of x, whose cell has the writer w or None."""
    if w is None:
        return [] if is_own_place else [("elsewhere", x, read, None)]
    return [] if times.is_before(w, x) else [("early", x, read, w)]


def faults_of_others(times, x, read, w, writers):
    """The faults "overwritten" of a read of x; the writers are those of the place."""
    return [
        ("overwritten", x, read, z)
        for z in writers
        if z not in (x, w) and not times.is_before(x, z) and (w is None or not times.is_before(z, w))
    ]
