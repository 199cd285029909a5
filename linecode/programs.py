"""The calls on one object, handed in as one list of numbers and answered in another."""

from linecode.held import SHAPES, Held
from linecode.refusals import Refusal


class Taker:
    """Takes numbers and rows off a list, one behind the other; the list stays as it is."""

    def __init__(self, source):
        self.source = source
        self.place = 0

    def is_done(self):
        """Whether all is taken."""
        return self.place >= len(self.source)

    def take(self, count):
        """The next numbers, as many as count says."""
        start = self.place
        self.place = start + count
        return self.source[start:self.place]

    def take_number(self):
        """The next number."""
        return self.take(1)[0]

    def take_row(self):
        """The next row, which has ahead of it how many numbers it has."""
        return self.take(self.take_number())


def answer_next(held, taker):
    """Takes one call and gives back what it answers."""
    call = taker.take_number()
    shape = SHAPES[call]
    numbers = taker.take(shape[0])
    rows = [taker.take_row() for k in range(shape[1])]
    try:
        return held.answer_call(call, numbers, rows)
    except Refusal as e:
        return [e.number]


def answers(calls):
    """For each call how many numbers it answers, and these."""
    held = Held()
    taker = Taker(calls)
    told = []
    while not taker.is_done():
        answer = answer_next(held, taker)
        told.append(len(answer))
        told.extend(answer)
    return told
