"""Foldings: temporary arrays that are kept in a few cells."""

from loopworks.errors import BadFolding

MOST_CELLS = 16


def check_folding(program, folding):
    """Raise BadFolding if the folding does not fit the program."""
    if len(folding) > len(program.arrays):
        raise BadFolding("the folding has too many elements")
    for numbers, (_, dimensions, temporary) in zip(folding, program.arrays):
        if len(numbers) > dimensions:
            raise BadFolding("an element of the folding has too many dimensions")
        most = MOST_CELLS if temporary else 0
        if not all([0 <= number <= most for number in numbers]):
            raise BadFolding("an integer of the folding is out of range")


def numbers_of(program, folding, array):
    """The numbers of the folding for an array, one for each of its dimensions."""
    numbers = folding[array] if array < len(folding) else ()
    return numbers + (0,) * (program.arrays[array][1] - len(numbers))


def place_of(folding, cell):
    """The place of a cell."""
    array, index = cell
    numbers = folding[array] if array < len(folding) else ()
    folded = [place_in(number, value) for number, value in zip(numbers, index)]
    return (array, tuple(folded) + index[len(folded):])


def place_in(number, value):
    """The place of an index in a dimension with this number in the folding."""
    return value if number == 0 else value % number


def same_place(folding, one, other):
    """True if the places of two cells are equal."""
    return place_of(folding, one) == place_of(folding, other)
