"""The normal text of a program."""

from loopworks.signs import write_signs
from loopworks.writing import (
    chosen_signs, conditions_signs, joined, sum_signs, sums_signs, symbol, word,
)


def normal_text(outline):
    """The normal text of an outline of a program."""
    names = joined([[word(name)] for name in outline.parameters], symbol(","))
    signs = line_signs("params", names)
    signs.extend(line_signs("context", conditions_signs(outline.context, outline.parameters)))
    for array in outline.arrays:
        signs.extend(array_signs(array))
    signs.extend(body_signs(outline, outline.body, outline.parameters))
    return write_signs(signs)


def line_signs(head, signs):
    """A line that begins with a word, or nothing if nothing is behind it."""
    if len(signs) == 0:
        return []
    return [word(head)] + signs + [symbol(";")]


def array_signs(array):
    name, dimensions, temporary = array
    signs = [word("temp" if temporary else "array"), word(name)]
    if dimensions > 0:
        signs = signs + [symbol("[")] + [symbol(",")] * (dimensions - 1) + [symbol("]")]
    return signs + [symbol(";")]


def body_signs(outline, body, names):
    signs = []
    for item in body:
        signs.extend(item_signs(outline, item, names))
    return signs


def item_signs(outline, item, names):
    if item[0] == "loop":
        return loop_signs(outline, item, names)
    if item[0] == "if":
        head = [word("if")] + conditions_signs(item[1], names)
        return head + block_signs(outline, item[2], names)
    return statement_signs(outline, item[1], names)


def block_signs(outline, body, names):
    return [symbol("{")] + body_signs(outline, body, names) + [symbol("}")]


def loop_signs(outline, item, names):
    name, lowers, uppers, _ = outline.loops[item[1]]
    lower = chosen_signs("max", [sum_signs(bound, names) for bound in lowers])
    upper = chosen_signs("min", [sum_signs(bound, names) for bound in uppers])
    head = [word("for"), word(name), symbol("=")] + lower + [word("to")] + upper
    return head + block_signs(outline, item[2], names + (name,))


def statement_signs(outline, number, names):
    name, _, _, write, reads = outline.statements[number]
    left = access_signs(outline, write, names)
    right = joined([access_signs(outline, access, names) for access in reads], symbol(","))
    return left + [symbol("="), word(name), symbol("(")] + right + [symbol(")"), symbol(";")]


def access_signs(outline, access, names):
    array, index = access
    signs = [word(outline.arrays[array][0])]
    if len(index) > 0:
        signs = signs + [symbol("[")] + sums_signs(index, names) + [symbol("]")]
    return signs
