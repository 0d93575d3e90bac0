"""Reading what the texts of programs and of schedules are made of."""

from loopworks.errors import TextFault
from loopworks.expressions import at_least, equal, less
from loopworks.signs import end_of, read_signs

RESERVED = (
    "params", "context", "array", "temp", "for", "parfor", "to", "if", "and", "divides",
    "max", "min", "floor", "ceil", "rows", "seq", "par",
)
COMPARISONS = ("<=", "<", ">=", ">", "==")
DEEPEST = 6


class Reader:
    """The signs of a text, read one after the other."""

    def __init__(self, text, deepest=DEEPEST):
        line, column = end_of(text)
        # The end counts as a sign, so that there is always one to look at.
        self.signs = read_signs(text) + [("end", "", line, column)]
        self.at = 0
        self.depth = 0
        self.deepest = deepest

    def fail(self, reason):
        """Report the sign that is looked at."""
        line, column = self.signs[self.at][2:]
        raise TextFault(line, column, reason)

    def fail_here(self):
        """Report the sign that is looked at, as one that may not stand here.

        The reason goes by this sign and what is ahead of it, not by what might stand here.
        """
        if self.is_at("{") and self.depth == self.deepest:
            self.fail("nested too deeply")
        if self.is_at("divides") and self.is_behind_zero():
            self.fail("number must be at least 1")
        self.fail("unexpected sign")

    def is_behind_zero(self):
        return self.at > 0 and self.signs[self.at - 1][1] == 0

    def is_at(self, value):
        return self.signs[self.at][1] == value

    def is_at_number(self):
        return self.signs[self.at][0] == "number"

    def is_at_end(self):
        return self.signs[self.at][0] == "end"

    def take(self):
        """The value of the sign that is looked at, which is passed by."""
        value = self.signs[self.at][1]
        self.at += 1
        return value

    def skip(self, value):
        """Pass a sign by if it has this value; True if it has."""
        if not self.is_at(value):
            return False
        self.at += 1
        return True

    def need(self, value):
        if not self.skip(value):
            self.fail_here()

    def need_end(self):
        if not self.is_at_end():
            self.fail_here()

    def enter(self):
        """Read an opening curly bracket."""
        if self.depth == self.deepest:
            self.fail_here()
        self.need("{")
        self.depth += 1
        if self.is_at("}"):
            self.fail("empty body")

    def leave(self):
        """Read a closing curly bracket."""
        self.need("}")
        self.depth -= 1

    def look_at_name(self):
        """The name that is looked at; it is not passed by, as it may still be a fault."""
        kind, value = self.signs[self.at][:2]
        if kind != "word" or value in RESERVED:
            self.fail_here()
        return value

    def read_known(self, names):
        """Read one of the names; its number."""
        name = self.look_at_name()
        if name not in names:
            self.fail("unknown name")
        self.at += 1
        return names.index(name)

    def read_new(self, names):
        """Read a name that is not among the names."""
        name = self.look_at_name()
        if name in names:
            self.fail("name already used")
        self.at += 1
        return name

    def read_new_variable(self, names):
        """Read a new name of a parameter or a loop."""
        name = self.look_at_name()
        if is_iterator(name):
            self.fail_here()
        return self.read_new(names)

    def read_divisor(self):
        """Read a number of at least 1."""
        if not self.is_at_number():
            self.fail_here()
        if self.is_at(0):
            self.fail("number must be at least 1")
        return self.take()

    def read_sum(self, names):
        """Read a sum over the variables with these names; an expression."""
        numbers = [0] * (len(names) + 1)
        factor = -1 if self.skip("-") else 1
        while factor != 0:
            variable, coefficient = self.read_term(names)
            numbers[variable] += factor * coefficient
            factor = self.read_factor()
        return tuple(numbers)

    def read_factor(self):
        """1 or -1 for the next term of a sum, 0 if there is none."""
        if self.skip("+"):
            return 1
        return -1 if self.skip("-") else 0

    def read_term(self, names):
        """Read a term; the number of its variable and the coefficient."""
        if not self.is_at_number():
            return self.read_known(names), 1
        number = self.take()
        if len(names) > 0 and self.skip("*"):
            return self.read_known(names), number
        return len(names), number

    def read_sums(self, names, count):
        """Read so many sums with commas between them."""
        found = []
        for number in range(count):
            if number > 0:
                self.need(",")
            found.append(self.read_sum(names))
        return tuple(found)

    def read_rounded(self, function, names):
        """Read a sum, or one and its divisor behind the name of a function; a pair of both."""
        if not self.skip(function):
            return (self.read_sum(names), 1)
        self.need("(")
        expression = self.read_sum(names)
        self.need(",")
        divisor = self.read_divisor()
        self.need(")")
        return (expression, divisor)

    def read_condition(self, names):
        """Read a condition; a constraint."""
        if self.is_at_number() and self.signs[self.at + 1][1] == "divides":
            divisor = self.take()
            if divisor == 0:
                self.fail_here()
            self.need("divides")
            return ("div", divisor, self.read_sum(names))
        left = self.read_sum(names)
        comparison = self.read_comparison()
        return compared(left, comparison, self.read_sum(names))

    def read_comparison(self):
        if self.signs[self.at][1] not in COMPARISONS:
            self.fail_here()
        return self.take()

    def read_conditions(self, names):
        """Read conditions that are joined by `and`."""
        found = [self.read_condition(names)]
        while self.skip("and"):
            found.append(self.read_condition(names))
        return tuple(found)


def is_iterator(name):
    """True for the names that the loops of generated code have: a t and digits."""
    return name[0] == "t" and name[1:].isdigit()


def compared(left, comparison, right):
    """The constraint that a comparison of two expressions stands for."""
    if comparison == "==":
        return equal(left, right)
    if comparison == ">=":
        return at_least(left, right)
    if comparison == ">":
        return less(right, left)
    if comparison == "<=":
        return at_least(right, left)
    return less(left, right)
