"""Programs: loops, conditionals and statements over arrays."""

from loopworks.errors import TooLarge
from loopworks.expressions import with_more_variables
from loopworks.normal_programs import normal_text
from loopworks.outlines import Outline


class Statement:
    """A statement of a program, with the loops and the conditions around it."""

    def __init__(self, name, loops, conditions, write, reads):
        self.name = name
        self.loops = loops
        self.conditions = conditions
        self.write = write
        self.reads = reads


class Program:
    """A program, made by Program.parse."""

    MOST_PARAMETERS = 2
    MOST_CONTEXT = 4
    MOST_ARRAYS = 4
    MOST_DIMENSIONS = 2
    MOST_STATEMENTS = 3
    MOST_LOOPS = 3
    MOST_CONDITIONS = 3
    MOST_READS = 2
    MOST_BOUNDS = 3
    MOST_COEFFICIENT = 4
    MOST_CONSTANT = 100
    MOST_DIVISOR = 8

    def __init__(self, outline):
        self.parameters = outline.parameters
        self.context = outline.context
        self.arrays = tuple(outline.arrays)
        self.loops = tuple(outline.loops)
        self.statements = tuple([
            Statement(name, loops, widened(conditions, len(self.parameters) + len(loops)), write, reads)
            for name, loops, conditions, write, reads in outline.statements
        ])
        self.text = normal_text(outline)

    @staticmethod
    def parse(text):
        """The program of a text."""
        outline = Outline(text)
        check_counts(outline)
        program = Program(outline)
        check_numbers(program)
        return program

    def __eq__(self, other):
        return isinstance(other, Program) and self.text == other.text

    def names_of(self, number):
        """The names of the parameters and of the loops of a statement."""
        loops = self.statements[number].loops
        return self.parameters + tuple([self.loops[loop][0] for loop in loops])


def widened(constraints, count):
    """The constraints as ones over count variables."""
    return tuple([
        constraint[:-1] + (with_more_variables(constraint[-1], count),)
        for constraint in constraints
    ])


def check_counts(outline):
    """Raise TooLarge if a program has too many of something."""
    counts = [
        (len(outline.parameters), Program.MOST_PARAMETERS),
        (len(outline.context), Program.MOST_CONTEXT),
        (len(outline.arrays), Program.MOST_ARRAYS),
        (len(outline.statements), Program.MOST_STATEMENTS),
    ]
    for _, dimensions, _ in outline.arrays:
        counts.append((dimensions, Program.MOST_DIMENSIONS))
    for _, lowers, uppers, _ in outline.loops:
        counts.append((len(lowers), Program.MOST_BOUNDS))
        counts.append((len(uppers), Program.MOST_BOUNDS))
    for _, loops, conditions, _, reads in outline.statements:
        counts.append((len(loops), Program.MOST_LOOPS))
        counts.append((len(conditions), Program.MOST_CONDITIONS))
        counts.append((len(reads), Program.MOST_READS))
    if any([count > most for count, most in counts]):
        raise TooLarge("the program has too many parts")


def check_numbers(program):
    """Raise TooLarge if a number in the program is too large."""
    constraints = list(program.context)
    expressions = []
    for _, lowers, uppers, _ in program.loops:
        expressions.extend(lowers + uppers)
    for statement in program.statements:
        constraints.extend(statement.conditions)
        for _, index in (statement.write,) + statement.reads:
            expressions.extend(index)
    expressions.extend([constraint[-1] for constraint in constraints])
    divisors = [constraint[1] for constraint in constraints if constraint[0] == "div"]
    if any([divisor > Program.MOST_DIVISOR for divisor in divisors]):
        raise TooLarge("a divisor in the program is too large")
    if not all([is_within_limits(expression) for expression in expressions]):
        raise TooLarge("a number in the program is too large")


def is_within_limits(expression):
    """True if the coefficients and the constant of an expression are not too large."""
    if abs(expression[-1]) > Program.MOST_CONSTANT:
        return False
    return all([abs(factor) <= Program.MOST_COEFFICIENT for factor in expression[:-1]])
