"""The kinds of lines, and programs made of lines.

A line is a tuple of its kind and its numbers, as it's told in a list: (INPUT, k),
(CONSTANT, numerator, denominator), (OPPOSITE, i), and (SUM, i, j) and its like.
"""

INPUT = 0
CONSTANT = 1
SUM = 2
DIFFERENCE = 3
PRODUCT = 4
QUOTIENT = 5
OPPOSITE = 6

# How many numbers a line has behind its kind, by the kind.
SIZES = (1, 2, 2, 2, 2, 2, 1)


class Program:
    """Lines over a number of inputs, and the lines that are its outs. It is never changed."""

    def __init__(self, inputs, lines, outs):
        self.inputs = inputs
        self.lines = lines
        self.outs = outs


class Draft:
    """Lines to which others are put: a program's own in the beginning."""

    def __init__(self, program):
        self.lines = list(program.lines)

    def put(self, line):
        """Puts the line behind all so far and gives back its number."""
        self.lines.append(line)
        return len(self.lines) - 1


def is_operation(line):
    """Whether a line is made of others: it's no input and no constant."""
    return line[0] != INPUT and line[0] != CONSTANT


def made_of(line):
    """The lines that a line is made of; none for an input or a constant."""
    return line[1:] if is_operation(line) else ()


def operations(program):
    """How many of its lines are operations."""
    return len([line for line in program.lines if is_operation(line)])


def told(program):
    """How many numbers the lines are told in, these, how many outs there are, they."""
    numbers = []
    for line in program.lines:
        numbers.extend(line)
    return [len(numbers)] + numbers + [len(program.outs)] + program.outs
