"""Promises 2 to 4 and 6: that what the made programs tell, and their texts, are the derivatives.

The values and derivatives that are asked for are reckoned here in another way: each
line's value and its derivatives by all inputs, side by side.
"""

import random
import re
import unittest
from fractions import Fraction

from tests.asking import (
    adopt, ahead, ask, back, change, code, gradient, held_lines, needed, run, shown, text, untold,
)


def slopes_of(n, line, values, slopes):
    """A line's value and its derivatives by the n inputs."""
    kind = line[0]
    if kind == 0:
        return values[line[1]], [Fraction(k == line[1]) for k in range(n)]
    if kind == 1:
        return Fraction(line[1], line[2]), [Fraction(0)] * n
    a, da = slopes[line[1]]
    if kind == 6:
        return -a, [-x for x in da]
    b, db = slopes[line[2]]
    if kind == 2:
        return a + b, [x + y for x, y in zip(da, db)]
    if kind == 3:
        return a - b, [x - y for x, y in zip(da, db)]
    if kind == 4:
        return a * b, [x * b + a * y for x, y in zip(da, db)]
    return a / b, [(x * b - a * y) / (b * b) for x, y in zip(da, db)]


def all_slopes(n, lines, values):
    slopes = []
    for line in lines:
        slopes.append(slopes_of(n, line, values, slopes))
    return slopes


def random_line(source, n, i):
    """A line of any kind that may stand in place i."""
    kind = source.choice((0, 1, 2, 3, 4, 4, 5, 5, 6)) if i else source.choice((0, 1))
    if kind == 0 and n:
        return (0, source.randrange(n))
    if kind < 2:
        return (1, source.choice((-3, -1, 1, 2, 5)), source.choice((1, 1, 2, 3)))
    if kind == 6:
        return (6, source.randrange(i))
    return (kind, source.randrange(i), source.randrange(i))


def random_case(source):
    """A program and inputs at which no line divides by 0: n, lines, outs, inputs."""
    while True:
        n = source.randrange(5)
        lines = []
        for i in range(source.randrange(1, 13)):
            lines.append(random_line(source, n, i))
        outs = [source.randrange(len(lines)) for o in range(source.randrange(1, 7))]
        inputs = [Fraction(source.randrange(-6, 7), source.randrange(1, 5)) for k in range(n)]
        try:
            all_slopes(n, lines, inputs)
        except ZeroDivisionError:
            continue
        return n, lines, outs, inputs


def numbers(values):
    return [number for value in values for number in (value.numerator, value.denominator)]


def outcome(values):
    return [0, len(values)] + numbers(values)


def runs_of_made(n, lines, outs, asked):
    """What adopting the backward and the forward program and running them gives, trimmed and not."""
    found = []
    for which in (0, 1):
        for trim in (0, 1):
            found.append(ask(code(n, lines, outs), adopt(which, trim), run(asked[which]))[2])
    return found


class Derivatives(unittest.TestCase):
    def test_of_many_programs(self):
        source = random.Random(20261119)
        for turn in range(400):
            n, lines, outs, inputs = random_case(source)
            slopes = all_slopes(n, lines, inputs)
            weights = [Fraction(source.randrange(-5, 6), source.randrange(1, 4)) for out in outs]
            parts = [Fraction(source.randrange(-5, 6), source.randrange(1, 4)) for k in range(n)]
            by_inputs = [sum((w * slopes[out][1][k] for w, out in zip(weights, outs)), Fraction(0))
                         for k in range(n)]
            along = [sum((d * slope for d, slope in zip(parts, slopes[out][1])), Fraction(0))
                     for out in outs]
            asked = (numbers(inputs + weights), numbers(inputs + parts))
            expected = [outcome(by_inputs)] * 2 + [outcome(along)] * 2
            self.assertEqual(runs_of_made(n, lines, outs, asked), expected, (n, lines, outs))
            found = ask(code(n, lines, outs), run(numbers(inputs)),
                        gradient(numbers(inputs), numbers(weights)),
                        change(numbers(inputs), numbers(parts)))
            self.assertEqual(found[1], outcome([slopes[out][0] for out in outs]))
            self.assertEqual(found[2], outcome(by_inputs))
            self.assertEqual(found[3], outcome(along))

    def test_trimmed_ones_keep_the_needed_lines_in_their_order(self):
        source = random.Random(7)
        for turn in range(400):
            n, lines, outs, inputs = random_case(source)
            for made in (back, ahead):
                whole, trimmed = ask(code(n, lines, outs), made(0), made(1))[1:]
                self.assertEqual(untold(trimmed), self.trim(*untold(whole)))

    def test_needed_lines(self):
        source = random.Random(8)
        for turn in range(400):
            n, lines, outs, inputs = random_case(source)
            for adopted in ([], [adopt(0, 0)], [adopt(1, 0)]):
                held, found = ask(code(n, lines, outs), *adopted, held_lines(), needed())[-2:]
                order = self.order(*untold(held[1:]))
                self.assertEqual(found, [len(order)] + order)

    def order(self, lines, outs):
        hung_on = set()
        ahead_of = list(outs)
        while ahead_of:
            line = ahead_of.pop()
            if line not in hung_on:
                hung_on.add(line)
                ahead_of.extend(lines[line][1:] if lines[line][0] > 1 else [])
        return sorted(hung_on)

    def trim(self, lines, outs):
        order = self.order(lines, outs)
        kept = [lines[i][:1] + tuple(order.index(j) for j in lines[i][1:]) if lines[i][0] > 1 else lines[i]
                for i in order]
        return kept, [order.index(out) for out in outs]


def read_text(words):
    """The inputs' names, each let with its name and what it is, and the outs' names."""
    parts = re.fullmatch(r"fn g\((.*?)\) = ((?:let t[0-9]+ = [^=]* in )*)\[([^\[\]]+)\];", words)
    inputs, lets, outs = parts.groups()
    lets = [tuple(part[4:].split(" = ")) for part in lets.split(" in ")[:-1]]
    return inputs.split(", ") if inputs else [], lets, outs.split(", ")


def told_by_text(words, inputs):
    """The values of the text's outs, reckoned from its words alone."""
    names, lets, outs = read_text(words)
    assert len(names) == len(inputs), words
    known = dict(zip(names, inputs))
    # Each number is one of its own, so that dividing stays exact.
    exact = r"\b([0-9]+)\b"

    def worth(what):
        return eval(re.sub(exact, r"Fraction(\1)", what), {"Fraction": Fraction}, known)

    for name, what in lets:
        assert name not in known, words
        known[name] = worth(what)
    return [worth(out) for out in outs]


class Texts(unittest.TestCase):
    def test_of_many_programs(self):
        source = random.Random(20261120)
        told = 0
        for turn in range(400):
            n, lines, outs, inputs = random_case(source)
            weights = [Fraction(source.randrange(-5, 6), source.randrange(1, 4)) for out in outs]
            parts = [Fraction(source.randrange(-5, 6), source.randrange(1, 4)) for k in range(n)]
            found = ask(code(n, lines, outs), run(numbers(inputs)), gradient(numbers(inputs), numbers(weights)),
                        change(numbers(inputs), numbers(parts)), text(0), text(1), text(2))
            for place, given in ((1, inputs), (2, inputs + weights), (3, inputs + parts)):
                if found[place + 3] != [-7]:
                    told += 1
                    words = shown(found[place + 3])
                    self.assertEqual(outcome(told_by_text(words, given)), found[place], words)
        self.assertGreater(told, 800)


if __name__ == "__main__":
    unittest.main()
