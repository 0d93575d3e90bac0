"""The normal text of code."""

from loopworks.signs import write_signs
from loopworks.writing import (
    chosen_signs, conditions_signs, rounded_signs, sums_signs, symbol, word,
)


def normal_text(program, body):
    """The normal text of code for a program."""
    return write_signs(body_signs(program, body, program.parameters))


def iterator_name(program, names):
    """The name of a loop at a place where the variables have these names."""
    return f"t{len(names) - len(program.parameters) + 1}"


def body_signs(program, body, names):
    signs = []
    for item, sequential in body:
        signs.extend(item_signs(program, item, names))
        if not sequential:
            signs.append(symbol("||"))
    return signs


def item_signs(program, item, names):
    if item[0] == "loop":
        return loop_signs(program, item, names)
    if item[0] == "if":
        head = [word("if")] + conditions_signs(item[1], names) if len(item[1]) > 0 else []
        return head + block_signs(program, item[2], names)
    name = program.statements[item[1]].name
    return [word(name), symbol("(")] + sums_signs(item[2], names) + [symbol(")"), symbol(";")]


def block_signs(program, body, names):
    return [symbol("{")] + body_signs(program, body, names) + [symbol("}")]


def loop_signs(program, item, names):
    _, sequential, lowers, uppers, body = item
    name = iterator_name(program, names)
    head = [word("for" if sequential else "parfor"), word(name), symbol("=")]
    lower = chosen_signs("min", [bounds_signs("max", "ceil", bounds, names) for bounds in lowers])
    upper = chosen_signs("max", [bounds_signs("min", "floor", bounds, names) for bounds in uppers])
    block = block_signs(program, body, names + (name,))
    return head + lower + [word("to")] + upper + block


def bounds_signs(function, rounding, bounds, names):
    """The signs of a list of bounds, with the names of the functions that stand there."""
    return chosen_signs(function, [rounded_signs(rounding, bound, names) for bound in bounds])
