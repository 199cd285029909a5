"""Programs as texts of a small language of functions."""

from linecode.linekinds import CONSTANT, INPUT, OPPOSITE, is_operation, made_of, operations
from linecode.refusals import TooLarge

MOST_INPUTS = 12
MOST_OUTS = 12
MOST_OPERATIONS = 36
TOO_LARGE_A_NUMBER = 1000000000000000000

# The sign of an operation, by the kind; inputs and constants have none.
SIGNS = ("", "", "+", "-", "*", "/", "-")


def is_too_large(line):
    """Whether a line is a constant that has no place in a text."""
    return line[0] == CONSTANT and max(abs(line[1]), line[2]) >= TOO_LARGE_A_NUMBER


def check_text(program):
    """Refuses a program that can't be told as text."""
    if program.inputs > MOST_INPUTS or operations(program) > MOST_OPERATIONS:
        raise TooLarge()
    if len(program.outs) < 1 or len(program.outs) > MOST_OUTS:
        raise TooLarge()
    if any([is_too_large(line) for line in program.lines]):
        raise TooLarge()


def input_name(k):
    """The name of input k."""
    return f"x{k}"


def constant_name(above, below):
    """A constant, as it stands where others would be named."""
    if below != 1:
        return f"({above} / {below})"
    if above < 0:
        return f"({above})"
    return f"{above}"


def line_name(i, line):
    """The name of line i."""
    if line[0] == INPUT:
        return input_name(line[1])
    if line[0] == CONSTANT:
        return constant_name(line[1], line[2])
    return f"t{i}"


def let_part(i, line, names):
    """The part of the text that gives the operation line i its name."""
    used = [names[j] for j in made_of(line)]
    sign = SIGNS[line[0]]
    what = sign + used[0] if line[0] == OPPOSITE else used[0] + " " + sign + " " + used[1]
    return "let " + names[i] + " = " + what + " in "


def text_of(program):
    """The program as text."""
    check_text(program)
    inputs = ", ".join([input_name(k) for k in range(program.inputs)])
    names = [line_name(i, line) for i, line in enumerate(program.lines)]
    lets = [let_part(i, line, names) for i, line in enumerate(program.lines) if is_operation(line)]
    outs = ", ".join([names[out] for out in program.outs])
    return "fn g(" + inputs + ") = " + "".join(lets) + "[" + outs + "];"
