"""The signs of a text: reading them, and writing them in the normal form."""

from loopworks.errors import TextFault

LETTERS = "abcdefghijklmnopqrstuvwxyzABCDEFGHIJKLMNOPQRSTUVWXYZ"
DIGITS = "0123456789"
WORD_CHARACTERS = "abcdefghijklmnopqrstuvwxyzABCDEFGHIJKLMNOPQRSTUVWXYZ0123456789_"
LONGEST_WORD = 20
LONGEST_NUMBER = 9

# The symbols of two characters stand first, so that their first characters are not taken alone.
SYMBOLS = (
    "<=", ">=", "==", "||",
    ",", ";", ":", "[", "]", "(", ")", "{", "}", "=", "+", "-", "*", "<", ">",
)
LINE_ENDS = (";", "{", "}", "||")
NO_SPACE_BEHIND = ("[", "(")
NO_SPACE_AHEAD = (",", ";", ":", "[", "]", "(", ")")


def read_signs(text):
    """The list of the signs of a text, each a tuple (kind, value, line, column)."""
    signs = []
    at = 0
    line = 1
    line_start = 0
    while at < len(text):
        if text[at] == "\n":
            at += 1
            line += 1
            line_start = at
        elif text[at] in " \t":
            at += 1
        else:
            kind, written = sign_at(text, at, line, at - line_start + 1)
            value = int(written) if kind == "number" else written
            signs.append((kind, value, line, at - line_start + 1))
            at += len(written)
    return signs


def sign_at(text, at, line, column):
    """The kind and the characters of the sign that begins at a place."""
    if text[at] in LETTERS:
        length = run_length(text, at, WORD_CHARACTERS)
        if length > LONGEST_WORD:
            raise TextFault(line, column + LONGEST_WORD, "name too long")
        return "word", text[at:at + length]
    if text[at] in DIGITS:
        length = run_length(text, at, DIGITS)
        if length > LONGEST_NUMBER:
            raise TextFault(line, column + LONGEST_NUMBER, "number too long")
        return "number", text[at:at + length]
    for symbol in SYMBOLS:
        if text[at:at + len(symbol)] == symbol:
            return "symbol", symbol
    raise TextFault(line, column, "unexpected character")


def run_length(text, at, characters):
    """How many characters from a place on are among the given ones."""
    behind = at
    while behind < len(text) and text[behind] in characters:
        behind += 1
    return behind - at


def write_signs(signs):
    """The text in normal form of a list of pairs (kind, value)."""
    pieces = []
    depth = 0
    last = ""
    for sign in signs:
        value = str(sign[1])
        if value == "}":
            depth = max(0, depth - 1)
        if last == "":
            pieces.append("  " * depth)
        elif last not in NO_SPACE_BEHIND and value not in NO_SPACE_AHEAD:
            pieces.append(" ")
        pieces.append(value)
        last = value
        if value == "{":
            depth += 1
        if value in LINE_ENDS:
            pieces.append("\n")
            last = ""
    if last != "":
        pieces.append("\n")
    return "".join(pieces)


def end_of(text):
    """The pair (line, column) of the place behind the last character."""
    lines = text.split("\n")
    return len(lines), len(lines[-1]) + 1
