"""Promise 5: ops."""

import unittest

from tests.asking import adopt, ahead, ask, back, code, held_lines, last, ops, untold

X, Y = (0, 0), (0, 1)
ONE = (1, 1, 1)


class Counts(unittest.TestCase):
    """Held, backward, that trimmed, forward, that trimmed."""

    def told_is(self, n, lines, outs, counts):
        self.assertEqual(last(code(n, lines, outs), ops()), counts)

    def test_at_the_beginning(self):
        self.assertEqual(ask(ops()), [[0, 0, 0, 0, 0]])

    def test_inputs_and_constants_are_none(self):
        self.told_is(1, [X], [0], [0, 0, 0, 0, 0])
        self.told_is(3, [ONE, X, ONE, Y], [0, 1, 2, 3], [0, 0, 0, 0, 0])

    def test_each_kind(self):
        self.told_is(2, [X, Y, (2, 0, 1)], [2], [1, 1, 0, 2, 1])
        self.told_is(2, [X, Y, (3, 0, 1)], [2], [1, 2, 1, 2, 1])
        self.told_is(2, [X, Y, (4, 0, 1)], [2], [1, 3, 2, 4, 3])
        self.told_is(2, [X, Y, (5, 0, 1)], [2], [1, 4, 4, 4, 4])
        self.told_is(1, [X, (6, 0)], [1], [1, 2, 1, 2, 1])

    def test_sums_that_are_put_between(self):
        self.told_is(1, [X, (4, 0, 0)], [1], [1, 4, 3, 4, 3])
        self.told_is(1, [X], [0, 0, 0], [0, 2, 2, 0, 0])
        # Of 3 lines that name one input the weights are added up.
        self.told_is(1, [X, X, X, (4, 0, 1), (3, 3, 2)], [4], [2, 7, 5, 6, 4])

    def test_five_that_all_differ(self):
        self.told_is(1, [X, (4, 0, 0), (6, 0)], [1], [2, 5, 3, 6, 3])
        self.told_is(2, [X, Y, (5, 0, 1), (4, 2, 2), (6, 3), (6, 3)], [4, 2], [4, 12, 9, 12, 8])

    def test_the_held_program_is_not_trimmed(self):
        self.told_is(1, [X, (6, 0), (2, 0, 0)], [0], [2, 2, 0, 4, 0])

    def test_lines_without_change_or_weight(self):
        self.told_is(0, [ONE, (6, 0), (2, 0, 1)], [2], [2, 4, 0, 2, 0])
        self.told_is(1, [ONE, X, (2, 0, 0), (4, 2, 1)], [3], [2, 5, 2, 3, 2])


class Agreement(unittest.TestCase):
    HELD = code(3, [(1, 2, 3), X, Y, (4, 1, 2), (5, 3, 0), (0, 2), (5, 4, 5), (6, 3), (3, 6, 4)], [8, 3])

    def count(self, answer):
        lines, outs = untold(answer)
        return len([line for line in lines if line[0] > 1])

    def test_with_what_is_told(self):
        for adopted in ([], [adopt(0, 0)], [adopt(0, 1)], [adopt(1, 0)], [adopt(1, 1)]):
            found = ask(self.HELD, *adopted, back(0), back(1), ahead(0), ahead(1), held_lines(), ops())
            told = found[-6:-2]
            counts = [self.count(found[-2][1:])] + [self.count(answer) for answer in told]
            self.assertEqual(found[-1], counts)

    def test_the_adopted_one_is_the_held_one(self):
        before = last(self.HELD, ops())
        place = 1
        for which in (0, 1):
            for trim in (0, 1):
                self.assertEqual(last(self.HELD, adopt(which, trim), ops())[0], before[place])
                place += 1

    def test_of_an_adopted_program(self):
        square = code(1, [X, (4, 0, 0)], [1])
        # Backward and trimmed: x, w, w x, w x, their sum.
        self.assertEqual(ask(square, adopt(0, 1), ops())[2], [3, 9, 6, 10, 7])


class Unchanged(unittest.TestCase):
    def test_the_held_program_stays(self):
        held = Agreement.HELD
        found = ask(held, held_lines(), ops(), held_lines(), ops())
        self.assertEqual(found[1:3], found[3:])

    def test_behind_refusals(self):
        square = code(1, [X, (4, 0, 0)], [1])
        found = ask(square, ops(), code(1, [7], [0]), ops(), adopt(2, 0), ops())
        self.assertEqual(found, [[2], [1, 4, 3, 4, 3], [-2], [1, 4, 3, 4, 3], [-1], [1, 4, 3, 4, 3]])


if __name__ == "__main__":
    unittest.main()
