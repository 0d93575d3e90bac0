"""Tags: who made the values that are read, and those that are there at the end."""

from loopworks.foldings import check_folding, place_of


def made_tag(x):
    return ("made",) + x


def start_tag(cell):
    return ("start",) + cell


def dataflow(nest):
    """The list of pairs (instance, tags of its reads) of the program, in its order."""
    return [
        (x, tuple([program_tag(nest, x, cell) for cell in nest.cells_read(x)]))
        for x in nest.instances
    ]


def program_tag(nest, x, cell):
    """The tag, in the program, of a cell that an instance reads."""
    w = nest.writer(cell, x)
    return start_tag(cell) if w is None else made_tag(w)


def trace(nest, order, *, folding=()):
    """The pairs (instance, tags of its reads) of an order, and the tags of places at the end."""
    check_folding(nest.program, folding)
    found = []
    places = {}
    for x in order:
        sources = [place_of(folding, cell) for cell in nest.cells_read(x)]
        found.append((x, tuple([tag_at(places, place) for place in sources])))
        places[place_of(folding, nest.written(x))] = made_tag(x)
    return found, places


def trace_fine(nest, accesses, *, folding=()):
    """The pairs (access, tag) of the reads of accesses, and the tags of places at the end."""
    check_folding(nest.program, folding)
    found = []
    places = {}
    for s, point, read in accesses:
        x = (s, point)
        if read is None:
            places[place_of(folding, nest.written(x))] = made_tag(x)
        else:
            place = place_of(folding, nest.cells_read(x)[read])
            found.append(((s, point, read), tag_at(places, place)))
    return found, places


def tag_at(places, place):
    """The tag of a place, of which the dict tells what was written there."""
    return places.get(place, start_tag(place))


def ends(nest, places):
    """The pairs (cell, tag) of the cells that stay, in the order of their last writes."""
    found = []
    for x in nest.instances:
        cell = nest.written(x)
        temporary = nest.program.arrays[cell[0]][2]
        if not temporary and nest.last_writer(cell) == x:
            found.append((cell, tag_at(places, cell)))
    return found
