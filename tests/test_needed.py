"""Promise 8: needed."""

import unittest

from tests.asking import adopt, ask, code, held_lines, last, needed

X, Y = (0, 0), (0, 1)
ONE = (1, 1, 1)


class Told(unittest.TestCase):
    def told_is(self, n, lines, outs, numbers):
        self.assertEqual(last(code(n, lines, outs), needed()), [len(numbers)] + numbers)

    def test_at_the_beginning(self):
        self.assertEqual(ask(needed()), [[0]])

    def test_outs(self):
        self.told_is(1, [X], [0], [0])
        self.told_is(1, [X, ONE, X, ONE], [2], [2])
        self.told_is(1, [X, ONE, X, ONE], [3, 0], [0, 3])
        self.told_is(1, [X, ONE, X, ONE], [3, 1, 3, 1, 1, 3], [1, 3])

    def test_what_an_out_is_made_of(self):
        for kind in (2, 3, 4, 5):
            self.told_is(2, [ONE, X, Y, (kind, 2, 0)], [3], [0, 2, 3])
            self.told_is(2, [ONE, X, Y, (kind, 0, 2)], [3], [0, 2, 3])
            self.told_is(2, [ONE, X, Y, (kind, 1, 1)], [3], [1, 3])
        self.told_is(2, [ONE, X, Y, (6, 1)], [3], [1, 3])

    def test_what_that_is_made_of(self):
        lines = [X, Y, ONE, (4, 0, 0), (2, 1, 2), (6, 3), (5, 4, 2), (6, 5)]
        self.told_is(2, lines, [7], [0, 3, 5, 7])
        self.told_is(2, lines, [6], [1, 2, 4, 6])
        self.told_is(2, lines, [5, 4], [0, 1, 2, 3, 4, 5])

    def test_lines_left_out_at_the_beginning(self):
        self.told_is(1, [ONE, (6, 0), X, (4, 2, 2)], [3], [2, 3])

    def test_lines_left_out_in_the_middle(self):
        self.told_is(1, [X, (6, 0), ONE, (4, 1, 2), (6, 0)], [4], [0, 4])

    def test_lines_left_out_at_the_end(self):
        self.told_is(1, [X, (6, 0), (6, 1), (4, 1, 2)], [1], [0, 1])

    def test_lines_left_out_at_all_three(self):
        self.told_is(2, [ONE, Y, X, (6, 2), (2, 1, 2), (6, 4), (4, 3, 5), X], [5], [1, 2, 4, 5])

    def test_numbers_of_an_input_or_a_constant_are_no_lines(self):
        self.told_is(3, [ONE, ONE, ONE, (0, 2), (1, 1, 2)], [3, 4], [3, 4])

    def test_eighty_lines(self):
        chain = [X] + [(6, k) for k in range(79)]
        self.told_is(1, chain, [79], list(range(80)))
        self.told_is(1, chain, [40, 7], list(range(41)))
        self.told_is(1, [X] * 80, [79, 0], [0, 79])


class Held(unittest.TestCase):
    def test_of_an_adopted_program(self):
        square = code(1, [X, (4, 0, 0), (6, 0)], [1])
        # Untrimmed the square itself and the opposite are not needed: only x, w, w x, w x, their sum.
        self.assertEqual(ask(square, adopt(0, 0), needed())[1:], [[2, 7, 1], [5, 0, 3, 4, 5, 6]])
        self.assertEqual(ask(square, adopt(0, 1), needed())[1:], [[2, 5, 1], [5, 0, 1, 2, 3, 4]])
        self.assertEqual(ask(square, adopt(1, 0), needed())[1:], [[2, 8, 1], [5, 0, 3, 4, 5, 6]])
        self.assertEqual(ask(square, adopt(1, 1), needed())[1:], [[2, 5, 1], [5, 0, 1, 2, 3, 4]])

    def test_of_one_adopted_without_outs(self):
        self.assertEqual(ask(code(0, [ONE], [0]), adopt(0, 0), needed())[1:], [[1, 2, 0], [0]])

    def test_a_long_chain_is_no_deep_call(self):
        chain = code(1, [X] + [(6, k) for k in range(79)], [79])
        found = ask(chain, adopt(1, 0), adopt(1, 0), held_lines(), needed())
        self.assertEqual(found[4], [80] + list(range(240, 320)))
        sums = [X] + [(2, k, 0) for k in range(50)]
        found = ask(code(1, sums, [50]), adopt(0, 0), adopt(0, 0), needed())
        self.assertEqual(found[3][0], len(found[3]) - 1)
        self.assertEqual(found[3][1:], sorted(set(found[3][1:])))

    def test_the_held_program_stays(self):
        found = ask(code(1, [ONE, X, (6, 1)], [1]), held_lines(), needed(), held_lines(), needed())
        self.assertEqual(found[2], [1, 1])
        self.assertEqual(found[1:3], found[3:])

    def test_behind_refusals(self):
        found = ask(code(1, [ONE, X, (6, 1)], [2]), code(1, [X], [1]), needed(), adopt(3, 0), needed())
        self.assertEqual(found, [[3], [-2], [2, 1, 2], [-1], [2, 1, 2]])


if __name__ == "__main__":
    unittest.main()
