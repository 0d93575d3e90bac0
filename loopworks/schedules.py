"""Schedules: in which order, and what in parallel, the instances of a program are executed."""

from loopworks.errors import TooLarge
from loopworks.expressions import value_at
from loopworks.programs import is_within_limits
from loopworks.reading import Reader
from loopworks.signs import write_signs
from loopworks.writing import joined, rounded_signs, symbol, word


class Schedule:
    """A schedule of a program, made by Schedule.parse."""

    MOST_ROWS = 4
    MOST_DIVISOR = 8

    def __init__(self, program, marks, rows):
        self.marks = marks
        self.rows = rows
        self.text = normal_text(program, marks, rows)

    @staticmethod
    def parse(text, program):
        """The schedule of a text for a program."""
        reader = ScheduleReader(text)
        marks = reader.read_marks()
        rows = reader.read_rows(program, len(marks))
        schedule = Schedule(program, marks, rows)
        check_limits(schedule)
        return schedule

    def __eq__(self, other):
        return isinstance(other, Schedule) and self.text == other.text


class ScheduleReader(Reader):
    """The signs of the text of a schedule, read one after the other."""

    def read_marks(self):
        """Read the line of the marks."""
        self.need("rows")
        marks = []
        if not self.is_at(";"):
            marks.append(self.read_mark())
            while self.skip(","):
                marks.append(self.read_mark())
        self.need(";")
        return tuple(marks)

    def read_mark(self):
        if self.skip("seq"):
            return True
        self.need("par")
        return False

    def read_rows(self, program, count):
        """Read a line with so many rows for each statement, and the end."""
        found = []
        for at, statement in enumerate(program.statements):
            self.need(statement.name)
            self.need(":")
            found.append(self.read_line(program.names_of(at), count))
        self.need_end()
        return tuple(found)

    def read_line(self, names, count):
        rows = []
        for at in range(count):
            if at > 0:
                self.need(",")
            rows.append(self.read_rounded("floor", names))
        self.need(";")
        return tuple(rows)


def check_limits(schedule):
    """Raise TooLarge if the schedule is beyond a limit."""
    if len(schedule.marks) > Schedule.MOST_ROWS:
        raise TooLarge("the schedule has too many rows")
    for line in schedule.rows:
        for expression, divisor in line:
            if divisor > Schedule.MOST_DIVISOR or not is_within_limits(expression):
                raise TooLarge("a number in the schedule is too large")


def normal_text(program, marks, rows):
    """The normal text of a schedule."""
    words = [[word("seq" if mark else "par")] for mark in marks]
    signs = [word("rows")] + joined(words, symbol(",")) + [symbol(";")]
    for at, line in enumerate(rows):
        names = program.names_of(at)
        written = joined([rounded_signs("floor", row, names) for row in line], symbol(","))
        head = [word(program.statements[at].name), symbol(":")]
        signs.extend(head + written + [symbol(";")])
    return write_signs(signs)


class Times:
    """The times of the instances of a nest under a schedule."""

    def __init__(self, nest, schedule):
        self.marks = schedule.marks
        self.table = {x: time_of(schedule, nest.sizes, x) for x in nest.instances}

    def is_before(self, one, other):
        """True if one is before other."""
        return is_time_before(self.marks, self.table[one], self.table[other])


def time_of(schedule, sizes, x):
    """The time of an instance."""
    statement, point = x
    line = schedule.rows[statement]
    return tuple([value_at(expression, sizes + point) // divisor for expression, divisor in line])


def is_before(schedule, sizes, one, other):
    """True if one instance is before the other one."""
    times = [time_of(schedule, sizes, x) for x in (one, other)]
    return is_time_before(schedule.marks, times[0], times[1])


def is_time_before(marks, one, other):
    """True if an instance at one time is before those at the other time."""
    for sequential, value, limit in zip(marks, one, other):
        if value != limit:
            return sequential and value < limit
    return False


def is_execution(nest, schedule, order):
    """True if the list of instances is an execution of the schedule."""
    if len(order) != len(nest.instances) or not all([x in order for x in nest.instances]):
        return False
    times = Times(nest, schedule)
    for at, late in enumerate(order):
        if any([times.is_before(late, early) for early in order[:at]]):
            return False
    return True
