"""Runs programs."""

from linecode.exact import minus, opposite, over, plus, times, weight
from linecode.linekinds import CONSTANT, DIFFERENCE, INPUT, PRODUCT, QUOTIENT, SUM

DIVISOR_IS_ZERO = 1
TOO_HEAVY = 2
HEAVIEST = 4000


def worked_out(line, inputs, values):
    """The value of a line from those of the lines before it; None where its divisor is 0."""
    kind = line[0]
    if kind == INPUT:
        return inputs[line[1]]
    if kind == CONSTANT:
        return (line[1], line[2])
    first = values[line[1]]
    if kind == SUM:
        return plus(first, values[line[2]])
    if kind == DIFFERENCE:
        return minus(first, values[line[2]])
    if kind == PRODUCT:
        return times(first, values[line[2]])
    if kind == QUOTIENT:
        divisor = values[line[2]]
        return None if divisor[0] == 0 else over(first, divisor)
    return opposite(first)


def run(program, inputs):
    """What comes of running the program: its outs' values, or a line and its fault."""
    values = []
    for i, line in enumerate(program.lines):
        value = worked_out(line, inputs, values)
        if value is None:
            return [1, i, DIVISOR_IS_ZERO]
        if weight(value) > HEAVIEST:
            return [1, i, TOO_HEAVY]
        values.append(value)
    outcome = [0, len(program.outs)]
    for out in program.outs:
        outcome.extend(values[out])
    return outcome
