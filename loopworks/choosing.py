"""Executions by choices, of instances and of single accesses."""

from loopworks.schedules import Times


def choose(nest, schedule, choices):
    """The instances of a nest in the order of the execution by choices."""
    return chosen(nest.instances, Times(nest, schedule), choices)


def settle(nest, schedule, some):
    """Some instances of a nest, in the order in which they are executed among themselves."""
    among = [x for x in nest.instances if x in some]
    return chosen(among, Times(nest, schedule), [])


def chosen(instances, times, choices):
    """The instances, given in the order of the program, in their order by choices."""
    preceding = [
        [at for at, one in enumerate(instances) if times.is_before(one, other)]
        for other in instances
    ]
    return [instances[at] for at in order_by_choices(preceding, choices)]


def choose_fine(nest, schedule, choices):
    """The accesses of a nest in the order of the fine execution by choices."""
    accesses = accesses_of(nest)
    times = Times(nest, schedule)
    preceding = [
        [at for at, one in enumerate(accesses) if must_precede(times, one, other)]
        for other in accesses
    ]
    return [accesses[at] for at in order_by_choices(preceding, choices)]


def is_fine_execution(nest, schedule, accesses):
    """True if the list of accesses is a fine execution of the schedule."""
    needed = accesses_of(nest)
    if len(accesses) != len(needed) or not all([access in accesses for access in needed]):
        return False
    times = Times(nest, schedule)
    for at, late in enumerate(accesses):
        if any([must_precede(times, late, early) for early in accesses[:at]]):
            return False
    return True


def accesses_of(nest):
    """All accesses of a nest, in the order in which they are counted."""
    found = []
    for s, point in nest.instances:
        count = len(nest.program.statements[s].reads)
        found.extend([(s, point, read) for read in range(count)])
        found.append((s, point, None))
    return found


def must_precede(times, one, other):
    """True if one access must precede the other one."""
    if one[:2] == other[:2]:
        return one[2] is not None and other[2] is None
    return times.is_before(one[:2], other[:2])


def order_by_choices(preceding, choices):
    """The numbers of things from 0 on, in the order in which choices execute them.

    The list preceding has for each thing the list of the numbers of those that must precede it.
    """
    waiting = [len(numbers) for numbers in preceding]
    left = list(range(len(preceding)))
    order = []
    while len(left) > 0:
        ready = [number for number in left if waiting[number] == 0]
        choice = choices[len(order)] if len(order) < len(choices) else 0
        number_chosen = ready[choice % len(ready)]
        order.append(number_chosen)
        left.remove(number_chosen)
        for other in left:
            if number_chosen in preceding[other]:
                waiting[other] -= 1
    return order
