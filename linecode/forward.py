"""The forward program: the change along a direction."""

from linecode.linekinds import (
    CONSTANT, DIFFERENCE, INPUT, OPPOSITE, PRODUCT, QUOTIENT, SUM, Draft, Program,
)


class ChangeDraft(Draft):
    """A draft that knows the change of each of the program's lines so far: a line, or None for 0."""

    def __init__(self, program):
        Draft.__init__(self, program)
        self.inputs = program.inputs
        self.changes = []

    def put_change(self, i, line):
        """Puts the change of line i, the next one."""
        kind = line[0]
        if kind == INPUT:
            change = self.put((INPUT, self.inputs + line[1]))
        elif kind == CONSTANT:
            change = None
        elif kind == SUM:
            change = self.change_of_sum(self.changes[line[1]], self.changes[line[2]])
        elif kind == DIFFERENCE:
            change = self.change_of_difference(self.changes[line[1]], self.changes[line[2]])
        elif kind == PRODUCT:
            change = self.change_of_product(line[1], line[2])
        elif kind == QUOTIENT:
            change = self.change_of_quotient(i, line[1], line[2])
        else:
            change = self.opposite_of(self.changes[line[1]])
        self.changes.append(change)

    def opposite_of(self, change):
        """The opposite of a change."""
        if change is None:
            return None
        return self.put((OPPOSITE, change))

    def change_of_sum(self, first, second):
        """The sum of two changes."""
        if first is None:
            return second
        if second is None:
            return first
        return self.put((SUM, first, second))

    def change_of_difference(self, first, second):
        """The difference of two changes."""
        if second is None:
            return first
        if first is None:
            return self.opposite_of(second)
        return self.put((DIFFERENCE, first, second))

    def change_of_product(self, j, k):
        """The change of the product of lines j and k."""
        first = self.changes[j]
        second = self.changes[k]
        if first is not None:
            first = self.put((PRODUCT, first, k))
        if second is not None:
            second = self.put((PRODUCT, j, second))
        return self.change_of_sum(first, second)

    def change_of_quotient(self, v, j, k):
        """The change of line v, the quotient of lines j and k."""
        first = self.changes[j]
        second = self.changes[k]
        if second is not None:
            second = self.put((PRODUCT, v, second))
        if first is None:
            return self.opposite_of(self.divided(second, k))
        return self.divided(self.change_of_difference(first, second), k)

    def divided(self, change, k):
        """The quotient of a change and line k."""
        if change is None:
            return None
        return self.put((QUOTIENT, change, k))

    def put_out(self, out):
        """The line that tells the change of an out."""
        if self.changes[out] is None:
            return self.put((CONSTANT, 0, 1))
        return self.changes[out]


def forward(program):
    """The forward program, with an input more for each input, and as many outs."""
    draft = ChangeDraft(program)
    for i, line in enumerate(program.lines):
        draft.put_change(i, line)
    outs = [draft.put_out(out) for out in program.outs]
    return Program(2 * program.inputs, draft.lines, outs)
