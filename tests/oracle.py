"""An execution of programs that is independent of the package: it runs through normal texts."""

import re


def instances_of(text, sizes):
    """What a program in normal text executes, in order.

    A list of tuples (instance, cell that is written, cells that are read).
    """
    return Run(text, sizes).found


class Run:
    def __init__(self, text, sizes):
        self.lines = [line.strip() for line in text.split("\n")]
        self.arrays = []
        self.statements = [self.name_of(line) for line in self.lines if self.is_statement(line)]
        self.found = []
        self.values = {}
        first = 0
        while first < len(self.lines) and self.read_head(self.lines[first], sizes):
            first += 1
        self.run(first, len(self.lines), [])

    def read_head(self, line, sizes):
        word = line.split(" ")[0]
        if word == "params":
            self.values = dict(zip(line[7:-1].split(", "), sizes))
        elif word in ("array", "temp"):
            self.arrays.append(re.match(r"\w+ (\w+)", line).group(1))
        elif word != "context":
            return False
        return True

    def is_statement(self, line):
        return line.endswith(");")

    def name_of(self, line):
        return line.split(" = ")[1].split("(")[0]

    def value(self, text):
        return eval(text, {"max": max, "min": min}, self.values)

    def holds(self, text):
        for condition in text.split(" and "):
            divides = re.match(r"(\d+) divides (.*)", condition)
            if divides:
                if self.value(divides.group(2)) % int(divides.group(1)) != 0:
                    return False
            elif not self.value(condition):
                return False
        return True

    def end_of_body(self, at):
        """The line that closes the body which the line opens."""
        depth = 1
        while depth > 0:
            at += 1
            depth += self.lines[at].count("{") - self.lines[at].count("}")
        return at

    def run(self, at, end, loops):
        while at < end:
            line = self.lines[at]
            if line.endswith("{"):
                behind = self.end_of_body(at)
                self.run_body(line, at + 1, behind, loops)
                at = behind
            elif self.is_statement(line):
                self.execute(line, loops)
            at += 1

    def run_body(self, line, at, end, loops):
        if line.startswith("if "):
            if self.holds(line[3:-2]):
                self.run(at, end, loops)
            return
        name, lower, upper = re.match(r"for (\w+) = (.*) to (.*) {", line).groups()
        for value in range(self.value(lower), self.value(upper) + 1):
            self.values[name] = value
            self.run(at, end, loops + [name])
        self.values.pop(name, None)

    def execute(self, line, loops):
        left, right = line.split(" = ", 1)
        number = self.statements.index(self.name_of(line))
        point = tuple(self.values[name] for name in loops)
        reads = self.cells(right.split("(", 1)[1][:-2])
        self.found.append(((number, point), self.cells(left)[0], reads))

    def cells(self, text):
        found = []
        for name, brackets in re.findall(r"(\w+)(\[[^\]]*\])?(?:, |$)", text):
            index = tuple(self.value(brackets)) if brackets else ()
            found.append((self.arrays.index(name), index))
        return tuple(found)


def writer_in(run, cell, count):
    """The last of so many first instances of a run that writes the cell, or None."""
    found = None
    for instance, written, _ in run[:count]:
        if written == cell:
            found = instance
    return found
