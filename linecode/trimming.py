"""Leaves out the lines that no out hangs on."""

from linecode.linekinds import Program, made_of


def needed_ones(program):
    """For each line whether it's needed."""
    needed = [False for line in program.lines]
    for out in program.outs:
        needed[out] = True
    # A line is made of earlier ones alone, so what needs it has been seen before it.
    for i in range(len(program.lines) - 1, -1, -1):
        if needed[i]:
            for used in made_of(program.lines[i]):
                needed[used] = True
    return needed


def needed_lines(program):
    """The numbers of the needed lines, in order."""
    return [i for i, is_needed in enumerate(needed_ones(program)) if is_needed]


def renamed(line, places):
    """The line, naming those that it's made of by their new numbers."""
    used = made_of(line)
    if not used:
        return line
    return (line[0],) + tuple([places[i] for i in used])


def trimmed(program):
    """The program with its needed lines alone."""
    lines = []
    places = {}
    for i in needed_lines(program):
        places[i] = len(lines)
        lines.append(renamed(program.lines[i], places))
    return Program(program.inputs, lines, [places[out] for out in program.outs])
