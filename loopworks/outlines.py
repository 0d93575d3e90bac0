"""Reading the text of a program."""

from loopworks.reading import Reader


class Scope:
    """Where an item stands: the names of its variables, and the loops and conditions around it."""

    def __init__(self, names, loops, conditions):
        self.names = names
        self.loops = loops
        self.conditions = conditions

    def within_loop(self, name, number):
        return Scope(self.names + (name,), self.loops + (number,), self.conditions)

    def under(self, conditions):
        return Scope(self.names, self.loops, self.conditions + conditions)


class Outline:
    """What the text of a program says, with or without too much in it.

    The items of the program are in `body`, a tuple of such tuples: ("loop", number, body),
    ("if", conditions, body), ("statement", number). Statements are tuples (name, loops,
    conditions, write, reads). All conditions are over the variables of the place where they stand.
    """

    def __init__(self, text):
        self.reader = Reader(text)
        self.arrays = []
        self.loops = []
        self.statements = []
        self.parameters = self.read_parameters()
        self.context = self.read_context()
        self.read_declarations()
        self.body = self.read_program_body()

    def read_parameters(self):
        if not self.reader.skip("params"):
            return ()
        names = [self.reader.read_new_variable([])]
        while self.reader.skip(","):
            names.append(self.reader.read_new_variable(names))
        self.reader.need(";")
        return tuple(names)

    def read_context(self):
        if not self.reader.skip("context"):
            return ()
        conditions = self.reader.read_conditions(self.parameters)
        self.reader.need(";")
        return conditions

    def read_declarations(self):
        while self.reader.is_at("array") or self.reader.is_at("temp"):
            temporary = self.reader.take() == "temp"
            self.read_array(temporary)
            while self.reader.skip(","):
                self.read_array(temporary)
            self.reader.need(";")

    def read_array(self, temporary):
        name = self.reader.read_new(self.array_names())
        dimensions = 0
        if self.reader.skip("["):
            dimensions = 1
            while self.reader.skip(","):
                dimensions += 1
            self.reader.need("]")
        self.arrays.append((name, dimensions, temporary))

    def array_names(self):
        return [name for name, _, _ in self.arrays]

    def read_program_body(self):
        scope = Scope(self.parameters, (), ())
        found = []
        while not self.reader.is_at_end():
            found.append(self.read_item(scope))
        return tuple(found)

    def read_body(self, scope):
        """Read items in curly brackets."""
        self.reader.enter()
        found = [self.read_item(scope)]
        while not self.reader.is_at("}"):
            found.append(self.read_item(scope))
        self.reader.leave()
        return tuple(found)

    def read_item(self, scope):
        if self.reader.skip("for"):
            return self.read_loop(scope)
        if self.reader.skip("if"):
            conditions = self.reader.read_conditions(scope.names)
            return ("if", conditions, self.read_body(scope.under(conditions)))
        return self.read_statement(scope)

    def read_loop(self, scope):
        """Read a loop behind its `for`."""
        name = self.reader.read_new_variable(scope.names)
        self.reader.need("=")
        lowers = self.read_bounds("max", scope)
        self.reader.need("to")
        uppers = self.read_bounds("min", scope)
        outer = scope.loops[-1] if len(scope.loops) > 0 else None
        number = len(self.loops)
        self.loops.append((name, lowers, uppers, outer))
        return ("loop", number, self.read_body(scope.within_loop(name, number)))

    def read_bounds(self, function, scope):
        """Read one bound, or several in brackets behind the name of a function."""
        if not self.reader.skip(function):
            return (self.reader.read_sum(scope.names),)
        self.reader.need("(")
        bounds = [self.reader.read_sum(scope.names)]
        while self.reader.skip(","):
            bounds.append(self.reader.read_sum(scope.names))
        self.reader.need(")")
        return tuple(bounds)

    def read_statement(self, scope):
        write = self.read_access(scope)
        self.reader.need("=")
        name = self.reader.read_new([statement[0] for statement in self.statements])
        self.reader.need("(")
        reads = [] if self.reader.is_at(")") else self.read_accesses(scope)
        self.reader.need(")")
        self.reader.need(";")
        number = len(self.statements)
        self.statements.append((name, scope.loops, scope.conditions, write, tuple(reads)))
        return ("statement", number)

    def read_accesses(self, scope):
        found = [self.read_access(scope)]
        while self.reader.skip(","):
            found.append(self.read_access(scope))
        return found

    def read_access(self, scope):
        """Read an access; a pair of the number of its array and its index."""
        array = self.reader.read_known(self.array_names())
        dimensions = self.arrays[array][1]
        if dimensions == 0:
            return (array, ())
        self.reader.need("[")
        index = self.reader.read_sums(scope.names, dimensions)
        self.reader.need("]")
        return (array, index)
