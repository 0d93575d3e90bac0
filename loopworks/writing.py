"""The signs, as pairs (kind, value), of what the normal texts are made of."""


def word(value):
    return ("word", value)


def symbol(value):
    return ("symbol", value)


def number(value):
    return ("number", value)


def joined(groups, between):
    """The signs of all groups, with one sign between two groups."""
    signs = []
    for at, group in enumerate(groups):
        if at > 0:
            signs.append(between)
        signs.extend(group)
    return signs


def sum_signs(expression, names):
    """The signs of an expression over the variables with these names."""
    terms = list(zip(expression, names + ("",)))
    added = [term_signs(factor, name) for factor, name in terms if factor > 0]
    signs = joined(added, symbol("+"))
    if len(added) == 0:
        signs = [number(0)]
    for factor, name in terms:
        if factor < 0:
            signs.append(symbol("-"))
            signs.extend(term_signs(-factor, name))
    return signs


def term_signs(factor, name):
    """The signs of a positive multiple of a variable, or of a constant if the name is empty."""
    if name == "":
        return [number(factor)]
    if factor == 1:
        return [word(name)]
    return [number(factor), symbol("*"), word(name)]


def sums_signs(expressions, names):
    """The signs of expressions with commas between them."""
    return joined([sum_signs(expression, names) for expression in expressions], symbol(","))


def chosen_signs(function, groups):
    """One group of signs alone, or several in brackets behind the name of a function."""
    if len(groups) == 1:
        return groups[0]
    return [word(function), symbol("(")] + joined(groups, symbol(",")) + [symbol(")")]


def rounded_signs(function, divided, names):
    """The signs of a pair of an expression and its divisor, with the name of a function."""
    expression, divisor = divided
    signs = sum_signs(expression, names)
    if divisor == 1:
        return signs
    return [word(function), symbol("(")] + signs + [symbol(","), number(divisor), symbol(")")]


def condition_signs(constraint, names):
    signs = sum_signs(constraint[-1], names)
    if constraint[0] == "div":
        return [number(constraint[1]), word("divides")] + signs
    sign = ">=" if constraint[0] == "ge" else "=="
    return signs + [symbol(sign), number(0)]


def conditions_signs(constraints, names):
    """The signs of constraints that are joined by `and`."""
    return joined([condition_signs(constraint, names) for constraint in constraints], word("and"))
