"""Whether a schedule and a folding keep everything that a program computes."""

from loopworks.foldings import check_folding, place_of
from loopworks.schedules import Times


def is_kept(nest, schedule, *, folding=()):
    """True if everything is kept by a schedule and a folding at the sizes of a nest."""
    check_folding(nest.program, folding)
    times = Times(nest, schedule)
    writers = writers_of_places(nest, folding)
    for x in nest.instances:
        for cell in nest.cells_read(x):
            place = place_of(folding, cell)
            others = [z for z in writers.get(place, []) if z != x]
            if not is_read_kept(times, x, nest.writer(cell, x), others, place == cell):
                return False
    return are_ends_kept(nest, times)


def writers_of_places(nest, folding):
    """A dict from each place that is written to the instances that write there."""
    found = {}
    for x in nest.instances:
        found.setdefault(place_of(folding, nest.written(x)), []).append(x)
    return found


def is_read_kept(times, x, w, others, is_own_place):
    """True if x reads what w wrote, or the start of the cell if there is no writer w.

    The others are the instances other than x that write at the place of the cell.
    """
    if w is None:
        return is_own_place and all([times.is_before(x, z) for z in others])
    if not times.is_before(w, x):
        return False
    return all([z == w or times.is_before(z, w) or times.is_before(x, z) for z in others])


def are_ends_kept(nest, times):
    """True if the cells of arrays that are not temporary end as in the program."""
    for z in nest.instances:
        cell = nest.written(z)
        temporary = nest.program.arrays[cell[0]][2]
        w = nest.last_writer(cell)
        if not temporary and z != w and not times.is_before(z, w):
            return False
    return True
