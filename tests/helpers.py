"""What several tests use."""

from loopworks.errors import TextFault


def fault_of(read, *given):
    """The line, column and reason of the TextFault that a call raises, or None."""
    try:
        read(*given)
    except TextFault as fault:
        return (fault.line, fault.column, fault.reason)
    return None


def marked(text):
    """A text without its mark `@`, and the line and the column of the mark."""
    ahead, behind = text.split("@")
    return ahead + behind, ahead.count("\n") + 1, len(ahead.split("\n")[-1]) + 1


RESERVED = (
    "params context array temp for parfor to if and divides max min floor ceil rows seq par"
).split()
