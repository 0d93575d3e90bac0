"""Texts of random programs, schedules and foldings, within the limits."""

SIGNS = ("<=", "<", ">=", ">", "==")


def random_sum(chance, names):
    terms = [str(chance.randrange(4))]
    for name in names:
        if chance.random() < 0.6:
            factor = chance.choice(["", "", "", "2 * "])
            terms.insert(chance.randrange(len(terms) + 1), factor + name)
    if len(terms) > 1 and chance.random() < 0.5:
        terms.pop()
    text = chance.choice(["", "", "- "]) + terms[0]
    for term in terms[1:]:
        text += chance.choice([" + ", " - "]) + term
    return text


def random_condition(chance, names):
    if chance.random() < 0.3:
        return f"{chance.randrange(1, 9)} divides {random_sum(chance, names)}"
    left, right = random_sum(chance, names), random_sum(chance, names[:1])
    return f"{left} {chance.choice(SIGNS)} {right}"


def random_conditions(chance, names, most):
    found = [random_condition(chance, names) for _ in range(chance.randrange(1, most + 1))]
    return " and ".join(found)


def random_bounds(chance, names, function):
    count = chance.choice([1, 1, 1, 2, 3])
    sums = [random_sum(chance, names) for _ in range(count)]
    if count == 1 and chance.random() < 0.7:
        return sums[0]
    return f"{function}({', '.join(sums)})"


class Maker:
    """Makes the items of one program."""

    def __init__(self, chance, parameters, arrays):
        self.chance = chance
        self.parameters = parameters
        self.arrays = arrays
        self.statements = 0

    def access(self, names):
        name, dimensions = self.chance.choice(self.arrays)
        sums = [random_sum(self.chance, names) for _ in range(dimensions)]
        return name + (f"[{', '.join(sums)}]" if sums else "")

    def statement(self, names):
        self.statements += 1
        reads = [self.access(names) for _ in range(self.chance.randrange(3))]
        return f"{self.access(names)} = S{self.statements}({', '.join(reads)});"

    def items(self, names, loops, conditionals):
        found = [self.item(names, loops, conditionals)]
        while self.statements < 3 and self.chance.random() < 0.4:
            found.append(self.item(names, loops, conditionals))
        return " ".join(found)

    def item(self, names, loops, conditionals):
        drawn = self.chance.random()
        if drawn < 0.5 and loops < 3:
            name = "ijk"[loops]
            lower = random_bounds(self.chance, names, "max")
            upper = random_bounds(self.chance, names, "min")
            body = self.items(names + [name], loops + 1, conditionals)
            return f"for {name} = {lower} to {upper} {{ {body} }}"
        if drawn < 0.65 and conditionals < 1:
            conditions = random_conditions(self.chance, names, 3)
            return f"if {conditions} {{ {self.items(names, loops, conditionals + 1)} }}"
        return self.statement(names)


def random_program(chance):
    """The text of a program, with anything that the grammar has in it."""
    parameters = ["n", "m"][:chance.randrange(3)]
    text = f"params {', '.join(parameters)}; " if parameters else ""
    if chance.random() < 0.5:
        text += f"context {random_conditions(chance, parameters, 4)}; "
    arrays = []
    for name in "abcd"[:chance.randrange(1, 5)]:
        dimensions = chance.randrange(3)
        arrays.append((name, dimensions))
        text += f"{chance.choice(['array', 'temp'])} {name}{['', '[]', '[,]'][dimensions]}; "
    return text + Maker(chance, parameters, arrays).items(parameters, 0, 0)
