"""Writes calls as numbers and takes answers apart, for the tests."""

from linecode.programs import answers

SIZES = (1, 2, 2, 2, 2, 2, 1)


def flat(lines):
    """The numbers of a list of lines, each written as a tuple."""
    return [number for line in lines for number in line]


def power_lines(exponent, base=(0, 0)):
    """Lines that raise the base, an input or a constant, to the exponent; the last one is the power."""
    lines = [base]
    power = 0
    for digit in bin(exponent)[3:]:
        lines.append((4, power, power))
        power = len(lines) - 1
        if digit == "1":
            lines.append((4, power, 0))
            power = len(lines) - 1
    return lines


def code(n, lines, outs):
    """The call code; lines as tuples, or plain numbers where the form is to be wrong."""
    numbers = flat(lines) if lines and isinstance(lines[0], tuple) else list(lines)
    return [0, n, len(numbers)] + numbers + [len(outs)] + list(outs)


def back(trim=0):
    return [1, trim]


def ahead(trim=0):
    return [2, trim]


def adopt(which, trim=0):
    return [3, which, trim]


def run(inputs):
    return [4, len(inputs)] + list(inputs)


def gradient(inputs, weights):
    return [5, len(inputs)] + list(inputs) + [len(weights)] + list(weights)


def change(inputs, direction):
    return [6, len(inputs)] + list(inputs) + [len(direction)] + list(direction)


def ops():
    return [7]


def text(which=0):
    return [8, which]


def held_lines():
    """The call lines, under another name than that of what it tells."""
    return [9]


def needed():
    return [10]


def split(numbers):
    """Each call's answer, from the list of all."""
    found = []
    at = 0
    while at < len(numbers):
        end = at + 1 + numbers[at]
        assert numbers[at] >= 1 and end <= len(numbers), numbers
        found.append(numbers[at + 1:end])
        at = end
    return found


def ask(*calls):
    """The answers of the calls, handed in as one list, one list for each."""
    found = split(answers([number for call in calls for number in call]))
    assert len(found) == len(calls), (len(found), len(calls))
    return found


def last(*calls):
    """The answer of the last of the calls."""
    return ask(*calls)[-1]


def told(lines, outs):
    """How a program with these lines and outs is told."""
    numbers = flat(lines)
    return [len(numbers)] + numbers + [len(outs)] + list(outs)


def untold(answer):
    """The lines and outs of a told program."""
    numbers = answer[1:1 + answer[0]]
    lines = []
    at = 0
    while at < len(numbers):
        end = at + 1 + SIZES[numbers[at]]
        lines.append(tuple(numbers[at:end]))
        at = end
    outs = answer[2 + answer[0]:]
    assert answer[1 + answer[0]] == len(outs), answer
    return lines, outs


def shown(answer):
    """The text whose bytes are answered."""
    assert answer[0] == len(answer) - 1, answer
    return bytes(answer[1:]).decode("ascii")
