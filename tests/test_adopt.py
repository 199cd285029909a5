"""Promise 3: adopt."""

import unittest

from tests.asking import adopt, ahead, ask, back, code, last, run, told, untold

X, Y = (0, 0), (0, 1)
FIRST = code(2, [X, Y, (4, 0, 1), (5, 2, 1), (6, 0)], [3, 2])
NOTHING = [0, 0]


def sizes(made, n):
    lines, outs = untold(made)
    return [n, len(lines), len(outs)]


class Adopted(unittest.TestCase):
    def test_at_the_beginning(self):
        for which in (0, 1):
            for trim in (0, 1):
                self.assertEqual(ask(adopt(which, trim), run([])), [[0, 0, 0], NOTHING])

    def test_what_it_answers_are_the_sizes_of_what_is_told(self):
        for trim in (0, 1):
            made, found = ask(FIRST, back(trim), adopt(0, trim))[1:]
            self.assertEqual(found, sizes(made, 4))
            made, found = ask(FIRST, ahead(trim), adopt(1, trim))[1:]
            self.assertEqual(found, sizes(made, 4))

    def test_the_backward_program_is_held(self):
        for trim in (0, 1):
            found = ask(FIRST, adopt(0, trim), run([3, 1, 5, 1, 1, 1, 1, 2]))
            # x y / y is x; its derivatives with weight 1 and those of x y with weight 1/2.
            self.assertEqual(found[2], [0, 2, 7, 2, 3, 2])

    def test_the_forward_program_is_held(self):
        for trim in (0, 1):
            found = ask(FIRST, adopt(1, trim), run([3, 1, 5, 1, 1, 1, 1, 2]))
            self.assertEqual(found[2], [0, 2, 1, 1, 13, 2])

    def test_sizes_untrimmed_and_trimmed(self):
        square = code(1, [X, (4, 0, 0), (6, 0)], [1])
        self.assertEqual(ask(square, adopt(0, 0)), [[3], [2, 7, 1]])
        self.assertEqual(ask(square, adopt(0, 1)), [[3], [2, 5, 1]])
        self.assertEqual(ask(square, adopt(1, 0)), [[3], [2, 8, 1]])
        self.assertEqual(ask(square, adopt(1, 1)), [[3], [2, 5, 1]])

    def test_an_adopted_program_is_told_as_the_same_code_is(self):
        for which in (0, 1):
            for trim in (0, 1):
                made = ask(FIRST, (back, ahead)[which](trim))[1]
                lines, outs = untold(made)
                asked = [back(0), back(1), ahead(0), ahead(1)]
                adopted = ask(FIRST, adopt(which, trim), *asked)[2:]
                coded = ask(code(4, lines, outs), *asked)[1:]
                self.assertEqual(adopted, coded)

    def test_derivatives_of_derivatives(self):
        cube = code(1, [X, (4, 0, 0), (4, 1, 0)], [2])
        again = ask(cube, adopt(1, 1), adopt(1, 1), run([5, 1, 1, 1, 1, 1, 0, 1]))
        self.assertEqual(again[3], [0, 1, 30, 1])
        # Backwards the second one also has the derivative by the first one's weight.
        again = ask(cube, adopt(0, 1), adopt(0, 1), run([5, 1, 1, 1, 1, 1]))
        self.assertEqual(again[3], [0, 2, 30, 1, 75, 1])

    def test_no_outs_left(self):
        constant = code(0, [(1, 1, 1)], [0])
        found = ask(constant, adopt(0, 1), run([]), run([1, 1]), ahead(1), adopt(0, 0), back(0))
        self.assertEqual(found[1:5], [[1, 0, 0], [-2], NOTHING, NOTHING])
        # Its one input has no weight, so the next one's out is the constant 0.
        self.assertEqual(found[5:], [[1, 1, 1], told([(1, 0, 1), (0, 1), (1, 0, 1)], [2])])

    def test_more_than_eighty_lines_may_be_held(self):
        lines = [X] + [(4, k, k) for k in range(79)]
        self.assertEqual(ask(code(1, lines, [79]), adopt(0, 0))[1], [2, 80 + 1 + 79 * 3, 1])


class TooMany(unittest.TestCase):
    def test_again_and_again_till_too_many_inputs(self):
        found = ask(code(1, [X, (4, 0, 0)], [1]), *[adopt(0, 1)] * 8)
        inputs = [answer[0] for answer in found[1:]]
        self.assertEqual(inputs, [2, 3, 5, 8, 13, 21, -7, -7])

    def test_twenty_four_inputs(self):
        nine = code(9, [(0, k) for k in range(9)], [0, 1, 2, 3, 4, 5])
        self.assertEqual([answer[0] for answer in ask(nine, *[adopt(0, 1)] * 3)], [9, 15, 24, -7])
        twelve = code(12, [X, (4, 0, 0)], [1])
        self.assertEqual(ask(twelve, adopt(1, 0)), [[2], [24, 6, 1]])
        self.assertEqual(ask(twelve, adopt(1, 1), run([3, 1] * 24)), [[2], [24, 5, 1], [0, 1, 18, 1]])
        self.assertEqual(ask(twelve, adopt(1, 1), adopt(1, 1), adopt(0, 1))[2:], [[-7], [-7]])

    def test_twenty_five_inputs(self):
        ten = code(10, [(0, k) for k in range(10)], [0, 1, 2, 3, 4])
        self.assertEqual([answer[0] for answer in ask(ten, *[adopt(0, 1)] * 2)], [10, 15, -7])
        found = ask(code(12, [X], [0]), adopt(0, 1), adopt(0, 0), adopt(1, 1))
        self.assertEqual(found[1:], [[13, 12, 12], [-7], [-7]])

    def test_six_hundred_lines_and_one_more(self):
        # Of one input, s sums and p products the second forward program has 4 + 4 s + 14 p lines.
        lines = [X] + [(2, k, k) for k in range(9)] + [(4, k, k) for k in range(9, 49)]
        found = ask(code(1, lines, [49]), adopt(1, 0), adopt(1, 0))
        self.assertEqual(found[1:], [[2, 180, 1], [4, 600, 1]])
        # A constant that nothing is made of is a line more, trimmed away again.
        more = lines + [(1, 1, 1)]
        found = ask(code(1, more, [49]), adopt(1, 0), adopt(1, 0), adopt(1, 1))
        self.assertEqual(found[1][1], 181)
        self.assertEqual(found[2], [-7])
        self.assertEqual(found[3][0], 4)

    def test_again_and_again_till_too_many_lines(self):
        lines = [X] + [(4, k, 0) for k in range(40)]
        for which in (0, 1):
            found = ask(code(1, lines, [40]), *[adopt(which, 0)] * 4)
            self.assertLessEqual(found[1][1], 600)
            self.assertEqual(found[-1], [-7])
            for answer in found[1:]:
                self.assertTrue(answer == [-7] or answer[0] <= 24 and answer[1] <= 600)
            # Not for its inputs: there are not nearly 24.
            self.assertLess(max(answer[0] for answer in found[1:]), 12)

    def test_a_refused_one_leaves_the_program(self):
        asked = [back(0), ahead(1), run([2, 1] * 13)]
        found = ask(code(12, [X, (4, 0, 0)], [1]), adopt(0, 0), *asked, adopt(0, 0), adopt(1, 0), *asked)
        self.assertEqual(found[5:7], [[-7], [-7]])
        self.assertEqual(found[2:5], found[7:])
        self.assertEqual(found[4][:2], [0, 12])


class OutOfRange(unittest.TestCase):
    def refused(self, which, trim):
        asked = [back(0), run([2, 1, 3, 1])]
        found = ask(FIRST, *asked, adopt(which, trim), *asked)
        self.assertEqual(found[3], [-1], (which, trim))
        self.assertEqual(found[1:3], found[4:])
        self.assertEqual(last(adopt(which, trim)), [-1])

    def test_which(self):
        for which in (-1, 2, 10 ** 18, -10 ** 18):
            for trim in (0, 1):
                self.refused(which, trim)

    def test_trim(self):
        for trim in (-1, 2, 10 ** 18, -10 ** 18):
            for which in (0, 1, 2):
                self.refused(which, trim)

    def test_before_too_many(self):
        twelve = code(12, [X], [0])
        found = ask(twelve, adopt(1, 1), adopt(1, 2), adopt(2, 0), adopt(0, -1), adopt(1, 1))
        self.assertEqual(found[2:], [[-1], [-1], [-1], [-7]])


if __name__ == "__main__":
    unittest.main()
