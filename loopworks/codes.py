"""Code: the loops that execute a program in the order of a schedule."""

from loopworks.normal_codes import iterator_name, normal_text
from loopworks.reading import Reader

DEEPEST_CODE = 16


class Code:
    """Code for a program, made by generate and by Code.parse."""

    def __init__(self, program, body):
        self.program = program
        self.body = body
        self.text = normal_text(program, body)

    @staticmethod
    def parse(text, program):
        """The code of a text for a program."""
        reader = CodeReader(text, program)
        return Code(program, reader.read_code())

    def __eq__(self, other):
        return isinstance(other, Code) and self.text == other.text


class CodeReader(Reader):
    """The signs of the text of code, read one after the other."""

    def __init__(self, text, program):
        super().__init__(text, DEEPEST_CODE)
        self.program = program

    def read_code(self):
        """Read the whole text; a body."""
        body = () if self.is_at_end() else self.read_items(self.program.parameters)
        self.need_end()
        return body

    def read_items(self, names):
        """Read items up to a closing curly bracket or the end; a body."""
        found = []
        item = self.read_item(names)
        while not self.is_at("}") and not self.is_at_end():
            sequential = not self.skip("||")
            found.append((item, sequential))
            item = self.read_item(names)
        return tuple(found) + ((item, True),)

    def read_block(self, names):
        """Read items in curly brackets; a body."""
        self.enter()
        body = self.read_items(names)
        self.leave()
        return body

    def read_item(self, names):
        if self.skip("for"):
            return self.read_loop(True, names)
        if self.skip("parfor"):
            return self.read_loop(False, names)
        if self.skip("if"):
            conditions = self.read_conditions(names)
            return ("if", conditions, self.read_block(names))
        if self.is_at("{"):
            return ("if", (), self.read_block(names))
        return self.read_statement(names)

    def read_loop(self, sequential, names):
        """Read a loop behind its first word."""
        name = iterator_name(self.program, names)
        self.need(name)
        self.need("=")
        lowers = self.read_lists("min", "max", "ceil", names)
        self.need("to")
        uppers = self.read_lists("max", "min", "floor", names)
        return ("loop", sequential, lowers, uppers, self.read_block(names + (name,)))

    def read_lists(self, outer, inner, rounding, names):
        """Read one list of bounds, or several in brackets behind the name of a function."""
        if not self.skip(outer):
            return (self.read_bounds(inner, rounding, names),)
        self.need("(")
        found = [self.read_bounds(inner, rounding, names)]
        while self.skip(","):
            found.append(self.read_bounds(inner, rounding, names))
        self.need(")")
        return tuple(found)

    def read_bounds(self, function, rounding, names):
        """Read one bound, or several in brackets behind the name of a function."""
        if not self.skip(function):
            return (self.read_rounded(rounding, names),)
        self.need("(")
        found = [self.read_rounded(rounding, names)]
        while self.skip(","):
            found.append(self.read_rounded(rounding, names))
        self.need(")")
        return tuple(found)

    def read_statement(self, names):
        statements = self.program.statements
        number = self.read_known([statement.name for statement in statements])
        self.need("(")
        expressions = self.read_sums(names, len(statements[number].loops))
        self.need(")")
        self.need(";")
        return ("statement", number, expressions)
