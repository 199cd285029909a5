"""Promise 7: lines."""

import unittest

from tests.asking import adopt, ahead, ask, back, code, held_lines, last, run, told

X, Y = (0, 0), (0, 1)
BIG = 10 ** 18
EVERY_KIND = [X, (1, 3, 4), (2, 0, 1), (3, 0, 1), (4, 2, 3), (5, 4, 1), (6, 5), Y]


class Told(unittest.TestCase):
    def told_is(self, n, lines, outs):
        self.assertEqual(last(code(n, lines, outs), held_lines()), [n] + told(lines, outs))

    def test_at_the_beginning(self):
        self.assertEqual(ask(held_lines()), [[0, 0, 0]])

    def test_number_by_number(self):
        found = last([0, 2, 10, 0, 0, 0, 1, 4, 0, 1, 2, 2, 0, 2, 3, 2], held_lines())
        self.assertEqual(found, [2, 10, 0, 0, 0, 1, 4, 0, 1, 2, 2, 0, 2, 3, 2])

    def test_every_kind(self):
        self.told_is(2, EVERY_KIND, [7])
        self.told_is(2, EVERY_KIND, [6, 0, 6, 1, 2, 7])

    def test_how_many_inputs_not_how_many_are_named(self):
        for n in (1, 2, 11, 12):
            self.told_is(n, [X], [0])
        self.told_is(0, [(1, 1, 1)], [0])
        self.told_is(12, [X, X, (0, 11)], [0])

    def test_lines_that_are_not_needed(self):
        self.told_is(1, [(1, 2, 1), X, (6, 1), X], [1])

    def test_constants_in_lowest_terms(self):
        lines = [(1, 6, 4), (1, 0, 7), (1, -8, 4), (1, -6, 4), (1, -BIG, BIG), (1, BIG, 1), (1, 1, BIG), (1, 0, BIG)]
        lowest = [(1, 3, 2), (1, 0, 1), (1, -2, 1), (1, -3, 2), (1, -1, 1), (1, BIG, 1), (1, 1, BIG), (1, 0, 1)]
        self.assertEqual(last(code(0, lines, [3]), held_lines()), [0] + told(lowest, [3]))

    def test_eighty_lines(self):
        self.told_is(1, [X] + [(4, k, 0) for k in range(79)], [79] * 6)


class Held(unittest.TestCase):
    def test_what_was_taken_last(self):
        found = ask(code(1, [X], [0]), held_lines(), code(2, [Y], [0, 0]), held_lines(), held_lines())
        self.assertEqual(found[1], [1] + told([X], [0]))
        self.assertEqual(found[3:], [[2] + told([Y], [0, 0])] * 2)

    def test_of_an_adopted_program(self):
        held = code(2, EVERY_KIND, [6, 7, 0])
        for trim in (0, 1):
            found = ask(held, back(trim), ahead(trim), adopt(0, trim), held_lines())
            self.assertEqual(found[4], [5] + found[1])
            found = ask(held, adopt(1, trim), held_lines())
            self.assertEqual(found[2], [4] + ask(held, ahead(trim))[1])

    def test_of_one_adopted_with_its_lines_written_out(self):
        found = ask(code(2, [X, (1, 4, 6), (4, 0, 1)], [2]), adopt(0, 1), held_lines(), adopt(1, 1), held_lines())
        kept = [(1, 2, 3), (0, 2), (4, 1, 0), (1, 0, 1)]
        self.assertEqual(found[2], [3] + told(kept, [2, 3]))
        self.assertEqual(found[4], [6] + told([(1, 2, 3), (0, 5), (4, 1, 0), (1, 0, 1)], [2, 3]))

    def test_of_one_adopted_without_outs(self):
        found = ask(code(0, [(1, 1, 1)], [0, 0]), adopt(0, 1), held_lines(), adopt(1, 0), held_lines())
        self.assertEqual(found[2::2], [[2, 0, 0], [4, 0, 0]])

    def test_behind_refusals(self):
        held = code(2, EVERY_KIND, [6])
        wrong = [code(13, [X], [0]), code(1, [7], [0]), code(1, [X] * 81, [0]), code(0, [X], [0]), code(1, [X], [1]),
                 back(2), ahead(2), adopt(2, 0), adopt(0, 2), run([1])]
        for call in wrong:
            found = ask(held_lines(), call, held_lines(), held, held_lines(), call, held_lines())
            self.assertEqual(found[2], found[0])
            self.assertLess(found[5][0], 0)
            self.assertEqual(found[6], found[4])
        twelve = code(12, EVERY_KIND, [6])
        found = ask(twelve, adopt(1, 0), held_lines(), adopt(1, 0), adopt(0, 1), held_lines())
        self.assertEqual(found[3:5], [[-7], [-7]])
        self.assertEqual(found[5], found[2])


if __name__ == "__main__":
    unittest.main()
