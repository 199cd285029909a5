"""The backward program: the derivatives by all inputs at once."""

from linecode.linekinds import (
    CONSTANT, DIFFERENCE, INPUT, OPPOSITE, PRODUCT, QUOTIENT, SUM, Draft, Program,
)


class WeightDraft(Draft):
    """A draft that knows which line holds the weight of each of the program's lines."""

    def __init__(self, program):
        Draft.__init__(self, program)
        self.holders = [None for line in program.lines]

    def weigh(self, i, x):
        """Adds the line x to the weight of line i."""
        holder = self.holders[i]
        if holder is None:
            self.holders[i] = x
        else:
            self.holders[i] = self.put((SUM, holder, x))

    def weigh_outs(self, program):
        """Gives each out the input that is its weight."""
        for o, out in enumerate(program.outs):
            self.weigh(out, self.put((INPUT, program.inputs + o)))

    def pass_on(self, i, line):
        """Adds to the weights of the lines that line i is made of what its own weight brings them."""
        b = self.holders[i]
        kind = line[0]
        if b is None or kind == INPUT or kind == CONSTANT:
            return
        if kind == SUM:
            self.weigh(line[1], b)
            self.weigh(line[2], b)
        elif kind == DIFFERENCE:
            self.weigh(line[1], b)
            self.weigh(line[2], self.put((OPPOSITE, b)))
        elif kind == PRODUCT:
            self.weigh(line[1], self.put((PRODUCT, b, line[2])))
            self.weigh(line[2], self.put((PRODUCT, b, line[1])))
        elif kind == QUOTIENT:
            self.pass_on_quotient(i, line, b)
        else:
            self.weigh(line[1], self.put((OPPOSITE, b)))

    def pass_on_quotient(self, i, line, b):
        """The same for the quotient line i whose weight b holds."""
        q = self.put((QUOTIENT, b, line[2]))
        self.weigh(line[1], q)
        part = self.put((PRODUCT, q, i))
        self.weigh(line[2], self.put((OPPOSITE, part)))

    def put_sum(self, taken):
        """The line that is the sum of those taken; of none the constant 0."""
        if not taken:
            return self.put((CONSTANT, 0, 1))
        total = taken[0]
        for x in taken[1:]:
            total = self.put((SUM, total, x))
        return total

    def gather(self, program):
        """For each input, what the lines that name it have as their weights, added up."""
        takings = [[] for k in range(program.inputs)]
        for i, line in enumerate(program.lines):
            if line[0] == INPUT and self.holders[i] is not None:
                takings[line[1]].append(self.holders[i])
        return [self.put_sum(taken) for taken in takings]


def backward(program):
    """The backward program, with an input more for each out, and an out for each input."""
    draft = WeightDraft(program)
    draft.weigh_outs(program)
    for i in range(len(program.lines) - 1, -1, -1):
        draft.pass_on(i, program.lines[i])
    outs = draft.gather(program)
    return Program(program.inputs + len(program.outs), draft.lines, outs)
