"""Takes apart the lists that calls are handed, and refuses those that aren't as told."""

from linecode.exact import lowest
from linecode.linekinds import CONSTANT, INPUT, OPPOSITE, SIZES, Program, made_of
from linecode.refusals import BadForm, NotThere, OutOfRange, TooLarge

MOST_INPUTS = 12
MOST_LINES = 80
MOST_OUTS = 6


def check_choice(number, most):
    """Refuses a number that isn't from 0 to most."""
    if number < 0 or number > most:
        raise OutOfRange()


def read_line(kind, numbers):
    """The line of this kind with these numbers."""
    if len(numbers) < SIZES[kind]:
        raise BadForm()
    if kind == CONSTANT:
        if numbers[1] < 1:
            raise BadForm()
        return (kind,) + lowest(numbers[0], numbers[1])
    if min(numbers) < 0:
        raise BadForm()
    return (kind,) + tuple(numbers)


def read_lines(numbers):
    """The lines that stand in the list one behind the other."""
    lines = []
    at = 0
    while at < len(numbers):
        kind = numbers[at]
        if kind < INPUT or kind > OPPOSITE:
            raise BadForm()
        end = at + 1 + SIZES[kind]
        lines.append(read_line(kind, numbers[at + 1:end]))
        at = end
    return lines


def check_uses(lines, inputs):
    """Refuses lines that use a line that isn't earlier, or an input that isn't there."""
    for i, line in enumerate(lines):
        if line[0] == INPUT and line[1] >= inputs:
            raise NotThere()
        for used in made_of(line):
            if used >= i:
                raise NotThere()


def check_outs(outs, lines):
    """Refuses outs that aren't as many as they may be, or of which one isn't a line."""
    if len(outs) < 1 or len(outs) > MOST_OUTS:
        raise BadForm()
    for out in outs:
        if out < 0 or out >= len(lines):
            raise BadForm()


def read_program(inputs, numbers, outs):
    """The program that the arguments of code tell."""
    check_choice(inputs, MOST_INPUTS)
    lines = read_lines(numbers)
    if len(lines) > MOST_LINES:
        raise TooLarge()
    check_uses(lines, inputs)
    # The document has the outs looked at last, though they are refused as a list is.
    check_outs(outs, lines)
    return Program(inputs, lines, list(outs))


def read_fractions(numbers, count):
    """The fractions in the list, which must be count ones."""
    if len(numbers) != 2 * count:
        raise BadForm()
    found = []
    for k in range(count):
        if numbers[2 * k + 1] < 1:
            raise BadForm()
        found.append(lowest(numbers[2 * k], numbers[2 * k + 1]))
    return found
