"""Witnesses: executions in which faults show."""

from loopworks.choosing import settle
from loopworks.foldings import check_folding
from loopworks.schedules import Times
from loopworks.tags import made_tag, program_tag, trace


def witness(nest, schedule, fault, *, folding=()):
    """An execution of the schedule in which a fault shows."""
    check_folding(nest.program, folding)
    times = Times(nest, schedule)
    order = []
    for leader in leaders(nest, fault):
        needed = [z for z in nest.instances if z == leader or times.is_before(z, leader)]
        order = order + settle(nest, schedule, left_of(needed, order))
    return order + settle(nest, schedule, left_of(nest.instances, order))


def left_of(instances, done):
    return [x for x in instances if x not in done]


def leaders(nest, fault):
    """The instances that a witness executes as early as it can, one after the other."""
    kind, x, read, other = fault
    if kind == "elsewhere":
        return []
    if kind != "overwritten":
        return [x]
    w = nest.writer(nest.cells_read(x)[read], x)
    return [other] if w is None else [w, other]


def shown(nest, schedule, fault, *, folding=()):
    """The tags that a fault is about: in the program, and in the witness over the folding."""
    _, x, read, _ = fault
    order = witness(nest, schedule, fault, folding=folding)
    found, places = trace(nest, order, folding=folding)
    if read is None:
        return made_tag(x), places[nest.written(x)]
    tags = found[order.index(x)][1]
    return program_tag(nest, x, nest.cells_read(x)[read]), tags[read]
