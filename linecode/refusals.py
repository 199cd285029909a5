"""The refusals: why a call isn't done, and the number that it answers then."""


class Refusal(Exception):
    """A call that isn't done; everything stays as it was."""

    def __init__(self, number):
        Exception.__init__(self, number)
        self.number = number


class OutOfRange(Refusal):
    """A number is out of the range that its promise tells."""

    def __init__(self):
        Refusal.__init__(self, -1)


class BadForm(Refusal):
    """A list isn't of the form that's told."""

    def __init__(self):
        Refusal.__init__(self, -2)


class NotThere(Refusal):
    """A line uses a line that isn't earlier, or an input that isn't one of the program's."""

    def __init__(self):
        Refusal.__init__(self, -3)


class TooLarge(Refusal):
    """A program has more lines or inputs than it may have, or can't be told as text."""

    def __init__(self):
        Refusal.__init__(self, -7)
