"""The object that holds a program, and what its calls do."""

from linecode.backward import backward
from linecode.forward import forward
from linecode.linekinds import Program, told
from linecode.reading import check_choice, read_fractions, read_program
from linecode.refusals import TooLarge
from linecode.running import run
from linecode.trimming import trimmed

CODE = 0
BACK = 1
AHEAD = 2
ADOPT = 3
RUN = 4

# How many whole numbers and how many lists each call is handed, by the call's number.
SHAPES = ((1, 2), (1, 0), (1, 0), (2, 0), (0, 1), (0, 2))

MOST_ADOPTED_INPUTS = 24
MOST_ADOPTED_LINES = 600


def trimmed_if(trim, program):
    """The program, trimmed if trim is 1."""
    return trimmed(program) if trim == 1 else program


class Held:
    """Holds a program: at the beginning one without inputs, lines and outs."""

    def __init__(self):
        self.program = Program(0, [], [])

    def answer_call(self, call, numbers, rows):
        """What the call answers with these whole numbers and lists."""
        if call == CODE:
            return self.take_code(numbers[0], rows[0], rows[1])
        if call == BACK:
            return self.tell_back(numbers[0])
        if call == AHEAD:
            return self.tell_ahead(numbers[0])
        if call == ADOPT:
            return self.adopt_derivative(numbers[0], numbers[1])
        if call == RUN:
            return self.run_held(rows[0])
        # The only one left is gradient.
        return self.run_gradient(rows[0], rows[1])

    def take_code(self, inputs, lines, outs):
        """Holds the told program from now on."""
        self.program = read_program(inputs, lines, outs)
        return [len(self.program.lines)]

    def tell_back(self, trim):
        """Tells the backward program."""
        check_choice(trim, 1)
        return told(trimmed_if(trim, backward(self.program)))

    def tell_ahead(self, trim):
        """Tells the forward program."""
        check_choice(trim, 1)
        return told(trimmed_if(trim, forward(self.program)))

    def adopt_derivative(self, which, trim):
        """Holds the backward or the forward program from now on."""
        check_choice(which, 1)
        check_choice(trim, 1)
        made = backward(self.program) if which == 0 else forward(self.program)
        made = trimmed_if(trim, made)
        if made.inputs > MOST_ADOPTED_INPUTS or len(made.lines) > MOST_ADOPTED_LINES:
            raise TooLarge()
        self.program = made
        return [made.inputs, len(made.lines), len(made.outs)]

    def run_held(self, inputs):
        """Runs the held program."""
        return run(self.program, read_fractions(inputs, self.program.inputs))

    def run_gradient(self, inputs, weights):
        """Runs the trimmed backward program with the weights behind the inputs."""
        values = read_fractions(inputs, self.program.inputs)
        values.extend(read_fractions(weights, len(self.program.outs)))
        return run(trimmed(backward(self.program)), values)
