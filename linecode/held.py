"""The object that holds a program, and what its calls do."""

from linecode.backward import backward
from linecode.forward import forward
from linecode.linekinds import Program, operations, told
from linecode.reading import check_choice, read_fractions, read_program
from linecode.refusals import TooLarge
from linecode.running import run
from linecode.texts import text_of
from linecode.trimming import needed_lines, trimmed

CODE = 0
BACK = 1
AHEAD = 2
ADOPT = 3
RUN = 4
GRADIENT = 5
CHANGE = 6
OPS = 7
TEXT = 8
LINES = 9

# How many whole numbers and how many lists each call is handed, by the call's number.
SHAPES = ((1, 2), (1, 0), (1, 0), (2, 0), (0, 1), (0, 2), (0, 2), (0, 0), (1, 0), (0, 0), (0, 0))

MOST_ADOPTED_INPUTS = 24
MOST_ADOPTED_LINES = 600


def trimmed_if(trim, program):
    """The program, trimmed if trim is 1."""
    return trimmed(program) if trim == 1 else program


class Held:
    """Holds a program: at the beginning one without inputs, lines and outs."""

    def __init__(self):
        self.program = Program(0, [], [])

    def answer_call(self, call, numbers, rows):
        """What the call answers with these whole numbers and lists."""
        if call == CODE:
            return self.take_code(numbers[0], rows[0], rows[1])
        if call == BACK:
            return self.tell_back(numbers[0])
        if call == AHEAD:
            return self.tell_ahead(numbers[0])
        if call == ADOPT:
            return self.adopt_derivative(numbers[0], numbers[1])
        if call == RUN:
            return self.run_held(rows[0])
        if call == GRADIENT:
            return self.run_gradient(rows[0], rows[1])
        if call == CHANGE:
            return self.run_change(rows[0], rows[1])
        if call == OPS:
            return self.tell_ops()
        if call == TEXT:
            return self.tell_text(numbers[0])
        if call == LINES:
            return [self.program.inputs] + told(self.program)
        # The only one left is needed.
        return self.tell_needed()

    def take_code(self, inputs, lines, outs):
        """Holds the told program from now on."""
        self.program = read_program(inputs, lines, outs)
        return [len(self.program.lines)]

    def tell_back(self, trim):
        """Tells the backward program."""
        check_choice(trim, 1)
        return told(trimmed_if(trim, backward(self.program)))

    def tell_ahead(self, trim):
        """Tells the forward program."""
        check_choice(trim, 1)
        return told(trimmed_if(trim, forward(self.program)))

    def adopt_derivative(self, which, trim):
        """Holds the backward or the forward program from now on."""
        check_choice(which, 1)
        check_choice(trim, 1)
        made = backward(self.program) if which == 0 else forward(self.program)
        made = trimmed_if(trim, made)
        if made.inputs > MOST_ADOPTED_INPUTS or len(made.lines) > MOST_ADOPTED_LINES:
            raise TooLarge()
        self.program = made
        return [made.inputs, len(made.lines), len(made.outs)]

    def run_held(self, inputs):
        """Runs the held program."""
        return run(self.program, read_fractions(inputs, self.program.inputs))

    def run_gradient(self, inputs, weights):
        """Runs the trimmed backward program with the weights behind the inputs."""
        values = read_fractions(inputs, self.program.inputs)
        values.extend(read_fractions(weights, len(self.program.outs)))
        return run(trimmed(backward(self.program)), values)

    def run_change(self, inputs, direction):
        """Runs the trimmed forward program with the direction's parts behind the inputs."""
        values = read_fractions(inputs, self.program.inputs)
        values.extend(read_fractions(direction, self.program.inputs))
        return run(trimmed(forward(self.program)), values)

    def tell_ops(self):
        """Tells how many operations the program and its derivative programs have."""
        back = backward(self.program)
        ahead = forward(self.program)
        return [operations(made) for made in (self.program, back, trimmed(back), ahead, trimmed(ahead))]

    def tell_text(self, which):
        """Tells the bytes of the text of the program, or of a trimmed derivative program."""
        check_choice(which, 2)
        shown = self.program
        if which == 1:
            shown = trimmed(backward(shown))
        elif which == 2:
            shown = trimmed(forward(shown))
        text = text_of(shown)
        return [len(text)] + [ord(sign) for sign in text]

    def tell_needed(self):
        """Tells which lines are needed."""
        found = needed_lines(self.program)
        return [len(found)] + found
