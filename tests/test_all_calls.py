"""All calls together: each answers as the document tells, whatever was asked before it."""

import random
import unittest

from tests.asking import (
    adopt, ahead, ask, back, change, code, gradient, held_lines, needed, ops, run, text,
)

X, Y = (0, 0), (0, 1)
BIG = 10 ** 18


def words(told):
    """What a text answers."""
    return [len(told)] + list(told.encode("ascii"))


class Mixed(unittest.TestCase):
    # Each call and what it answers.
    STEPS = [
        (held_lines(), [0, 0, 0]),
        (text(0), [-7]),
        (change([], []), [0, 0]),
        (code(2, [X, Y, (4, 0, 1)], [3]), [-2]),
        (needed(), [0]),
        (code(2, [X, Y, (5, 0, 1), (1, 6, 4)], [2]), [4]),
        (held_lines(), [2, 10, 0, 0, 0, 1, 5, 0, 1, 1, 3, 2, 1, 2]),
        (needed(), [3, 0, 1, 2]),
        (ops(), [1, 4, 4, 4, 4]),
        (text(3), [-1]),
        (text(0), words("fn g(x0, x1) = let t2 = x0 / x1 in [t2];")),
        (run([3, 1, 5, 1]), [0, 1, 3, 5]),
        (run([3, 1, 0, 1]), [1, 2, 1]),
        (run([3, 1, 5, 0]), [-2]),
        (gradient([3, 1, 5, 1], [1, 1]), [0, 2, 1, 5, -3, 25]),
        (gradient([3, 1, 5, 1], []), [-2]),
        (change([3, 1, 5, 1], [1, 1, 1, 1]), [0, 1, 2, 25]),
        (change([3, 1, 5, 1], [1, 1]), [-2]),
        (change([3, 1, 0, 1], [1, 1, 1, 1]), [1, 2, 1]),
        (back(2), [-1]),
        (back(1), [17, 0, 0, 0, 1, 5, 0, 1, 0, 2, 5, 3, 1, 4, 4, 2, 6, 5, 2, 4, 6]),
        (ahead(-1), [-1]),
        (ahead(1), [20, 0, 0, 0, 1, 5, 0, 1, 0, 2, 0, 3, 4, 2, 4, 3, 3, 5, 5, 6, 1, 1, 7]),
        (adopt(2, 0), [-1]),
        (adopt(1, 2), [-1]),
        (code(13, [X], [0]), [-1]),
        (code(1, [X] * 81, [0]), [-7]),
        (code(2, [X, (0, 2)], [0]), [-3]),
        (adopt(1, 1), [4, 8, 1]),
        (held_lines(), [4, 20, 0, 0, 0, 1, 5, 0, 1, 0, 2, 0, 3, 4, 2, 4, 3, 3, 5, 5, 6, 1, 1, 7]),
        (needed(), [8, 0, 1, 2, 3, 4, 5, 6, 7]),
        (text(0), words("fn g(x0, x1, x2, x3) = let t2 = x0 / x1 in let t5 = t2 * x3 in let t6 = x2 - t5 in "
                        "let t7 = t6 / x1 in [t7];")),
        (run([3, 1, 5, 1]), [-2]),
        (run([3, 1, 5, 1, 1, 1, 1, 1]), [0, 1, 2, 25]),
        # By x, y, x' and y' of (x' - x y' / y) / y, which is (x' y - x y') / y ** 2.
        (gradient([3, 1, 5, 1, 1, 1, 1, 1], [25, 1]), [0, 4, -1, 1, 1, 5, 5, 1, -3, 1]),
        (change([3, 1, 5, 1, 1, 1, 1, 1], [0, 1, 0, 1, 5, 1, 0, 1]), [0, 1, 1, 1]),
        (code(1, [(1, BIG, 1), X, (4, 0, 1), (6, 2)], [2]), [4]),
        (ops(), [2, 4, 1, 4, 1]),
        (text(0), [-7]),
        (text(2), [-7]),
        (needed(), [3, 0, 1, 2]),
        (change([7, 2], [3, 1]), [0, 1, 3 * BIG, 1]),
        (adopt(0, 0), [2, 7, 1]),
        (held_lines(), [2, 18, 1, BIG, 1, 0, 0, 4, 0, 1, 6, 2, 0, 1, 4, 4, 1, 4, 4, 0, 1, 6]),
        (needed(), [3, 0, 4, 6]),
        (code(0, [(1, -1, 1)], [0, 0]), [1]),
        (text(0), words("fn g() = [(-1), (-1)];")),
        (text(1), [-7]),
        (text(2), words("fn g() = [0, 0];")),
    ]

    def test_call_by_call(self):
        found = ask(*[call for call, answer in self.STEPS])
        for (call, answer), given in zip(self.STEPS, found):
            self.assertEqual(given, answer, call)

    def test_from_any_call_that_takes_a_code_on(self):
        calls = [call for call, answer in self.STEPS]
        for start in range(len(calls)):
            if calls[start][0] == 0 and self.STEPS[start][1][0] >= 0:
                self.assertEqual(ask(*calls[start:]), [answer for call, answer in self.STEPS[start:]])


def fractions(source, count):
    found = []
    for k in range(count):
        found += [source.choice((-2, -1, 0, 1, 2, 3, BIG)), source.choice((1, 1, 2, 3, BIG - 1))]
    if source.random() < 0.1:
        found = found[1:] + [0]
    return found


def random_code(source):
    """A small code, now and then one that is refused."""
    n = source.choice((0, 1, 2, 3, 6, 7, 12, 13))
    lines = [(1, source.choice((-3, 2, BIG)), source.choice((1, 4)))]
    for i in range(1, source.randrange(2, 9)):
        kind = source.choice((0, 1, 2, 3, 4, 5, 6))
        if kind == 0:
            lines.append((0, source.randrange(n + (source.random() < 0.05)) if n else 0))
        elif kind == 1:
            lines.append((1, source.randrange(-5, 6), source.randrange(1, 4)))
        else:
            lines.append((kind, source.randrange(i), source.randrange(i))[:2 if kind == 6 else 3])
    return code(n, lines, [source.randrange(len(lines)) for o in range(source.choice((1, 2, 3, 6)))])


def random_call(source, inputs, outs):
    """A call on a program with so many inputs and outs."""
    number = source.randrange(11)
    small = source.choice((0, 0, 1, 1, 1, 2, -1))
    if number == 0:
        return random_code(source)
    if number == 3:
        return adopt(small, source.choice((0, 1, 1, 2)))
    if number == 4:
        return run(fractions(source, inputs))
    if number == 5:
        return gradient(fractions(source, inputs), fractions(source, outs))
    if number == 6:
        return change(fractions(source, inputs), fractions(source, inputs))
    return [number, small] if number in (1, 2, 8) else [number]


class WhateverWasAsked(unittest.TestCase):
    def test_only_code_and_adopt_change_what_the_others_answer(self):
        source = random.Random(11)
        seen = set()
        for turn in range(40):
            calls = [random_code(source)]
            for step in range(30):
                told = ask(*calls, held_lines())[-1]
                calls.append(random_call(source, told[0], told[2 + told[1]]))
            kept = []
            for call, answer in zip(calls, ask(*calls)):
                # Behind nothing but the calls that changed the program it answers the same.
                self.assertEqual(ask(*kept, call)[-1], answer)
                seen.add((call[0], min(answer[0], 0)))
                if call[0] in (0, 3) and answer[0] >= 0:
                    kept.append(call)
        # Each call is answered, and those that can be refused are refused, too.
        self.assertEqual({call for call, answer in seen if answer == 0}, set(range(11)))
        self.assertEqual({call for call, answer in seen if answer < 0}, {0, 1, 2, 3, 4, 5, 6, 8})

    def test_seventy_calls_of_all_kinds(self):
        calls = [call for call, answer in Mixed.STEPS][:35] * 2
        answer = [answer for call, answer in Mixed.STEPS][:35]
        found = ask(*calls)
        self.assertEqual(len(found), 70)
        self.assertEqual(found[:35], answer)
        # From the first code that is taken on, what was held before doesn't count.
        self.assertEqual(found[40:], answer[5:])


if __name__ == "__main__":
    unittest.main()
