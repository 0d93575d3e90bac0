"""Programs: loops, conditionals and statements over arrays."""

from loopworks.errors import TooLarge
from loopworks.normal_programs import normal_text
from loopworks.outlines import Outline


class Statement:
    """A statement of a program, with the loops and the conditions around it."""

    def __init__(self, name, loops, conditions, write, reads):
        self.name = name
        self.loops = loops
        self.conditions = conditions
        self.write = write
        self.reads = reads


class Program:
    """A program, made by Program.parse."""

    MOST_PARAMETERS = 2
    MOST_CONTEXT = 4
    MOST_ARRAYS = 4
    MOST_DIMENSIONS = 2
    MOST_STATEMENTS = 3
    MOST_LOOPS = 3
    MOST_CONDITIONS = 3
    MOST_READS = 2
    MOST_BOUNDS = 3
    MOST_COEFFICIENT = 4
    MOST_CONSTANT = 100
    MOST_DIVISOR = 8

    def __init__(self, outline):
        self.parameters = outline.parameters
        self.context = outline.context
        self.arrays = tuple(outline.arrays)
        self.loops = tuple(outline.loops)
        self.statements = tuple([
            Statement(name, loops, conditions, write, reads)
            for name, loops, conditions, write, reads in outline.statements
        ])
        self.text = normal_text(outline)

    @staticmethod
    def parse(text):
        """The program of a text."""
        program = Program(Outline(text))
        check_counts(program)
        check_numbers(program)
        return program

    def __eq__(self, other):
        return isinstance(other, Program) and self.text == other.text

    def names_of(self, number):
        """The names of the parameters and of the loops of a statement."""
        loops = self.statements[number].loops
        return self.parameters + tuple([self.loops[loop][0] for loop in loops])


def check_counts(program):
    """Raise TooLarge if the program has too many of something."""
    counts = [
        (len(program.parameters), Program.MOST_PARAMETERS),
        (len(program.context), Program.MOST_CONTEXT),
        (len(program.arrays), Program.MOST_ARRAYS),
        (len(program.statements), Program.MOST_STATEMENTS),
    ]
    for _, dimensions, _ in program.arrays:
        counts.append((dimensions, Program.MOST_DIMENSIONS))
    for _, lowers, uppers, _ in program.loops:
        counts.append((len(lowers), Program.MOST_BOUNDS))
        counts.append((len(uppers), Program.MOST_BOUNDS))
    for statement in program.statements:
        counts.append((len(statement.loops), Program.MOST_LOOPS))
        counts.append((len(statement.conditions), Program.MOST_CONDITIONS))
        counts.append((len(statement.reads), Program.MOST_READS))
    if any([count > most for count, most in counts]):
        raise TooLarge("the program has too many parts")


def check_numbers(program):
    """Raise TooLarge if a number in the program is too large."""
    constraints = list(program.context)
    expressions = []
    for _, lowers, uppers, _ in program.loops:
        expressions.extend(lowers + uppers)
    for statement in program.statements:
        constraints.extend(statement.conditions)
        for _, index in (statement.write,) + statement.reads:
            expressions.extend(index)
    expressions.extend([constraint[-1] for constraint in constraints])
    divisors = [constraint[1] for constraint in constraints if constraint[0] == "div"]
    if any([divisor > Program.MOST_DIVISOR for divisor in divisors]):
        raise TooLarge("a divisor in the program is too large")
    if not all([is_within_limits(expression) for expression in expressions]):
        raise TooLarge("a number in the program is too large")


def is_within_limits(expression):
    """True if the coefficients and the constant of an expression are not too large."""
    if abs(expression[-1]) > Program.MOST_CONSTANT:
        return False
    return all([abs(factor) <= Program.MOST_COEFFICIENT for factor in expression[:-1]])
