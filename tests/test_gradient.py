"""Promise 4: gradient."""

import unittest

from tests.asking import adopt, ask, back, code, gradient, last, power_lines, run, untold

X, Y = (0, 0), (0, 1)
BIG = 10 ** 18


class Values(unittest.TestCase):
    def told_is(self, held, inputs, weights, values):
        found = ask(held, gradient(inputs, weights), adopt(0, 1), run(inputs + weights))
        self.assertEqual(found[1], [0, len(values) // 2] + values)
        self.assertEqual(found[3], found[1])

    def test_at_the_beginning(self):
        self.assertEqual(ask(gradient([], [])), [[0, 0]])

    def test_operations(self):
        self.told_is(code(2, [X, Y, (2, 0, 1)], [2]), [3, 1, 5, 1], [2, 7], [2, 7, 2, 7])
        self.told_is(code(2, [X, Y, (3, 0, 1)], [2]), [3, 1, 5, 1], [2, 7], [2, 7, -2, 7])
        self.told_is(code(2, [X, Y, (4, 0, 1)], [2]), [3, 1, 5, 2], [2, 7], [5, 7, 6, 7])
        self.told_is(code(2, [X, Y, (5, 0, 1)], [2]), [3, 1, 5, 1], [1, 1], [1, 5, -3, 25])
        self.told_is(code(1, [X, (6, 0)], [1]), [3, 1], [2, 7], [-2, 7])

    def test_several_outs_with_their_weights_in_order(self):
        held = code(2, [X, Y, (4, 0, 1), (2, 0, 1)], [2, 3, 2, 0])
        self.told_is(held, [3, 1, 5, 1], [1, 1, 10, 1, 100, 1, 1000, 1], [1515, 1, 313, 1])

    def test_a_constant_out_and_an_input_that_no_line_names(self):
        self.told_is(code(2, [(1, 7, 1), X], [0]), [3, 1, 5, 1], [1, 1], [0, 1, 0, 1])
        self.told_is(code(0, [(1, 7, 1)], [0]), [], [1, 1], [])

    def test_negative_ones_and_such_that_are_not_in_lowest_terms(self):
        held = code(2, [X, Y, (4, 0, 1), (5, 2, 0)], [2])
        self.told_is(held, [-6, 4, 10, 15], [-14, 21], [-4, 9, 1, 1])
        self.told_is(held, [0, 4, 0, 15], [0, 21], [0, 1, 0, 1])

    def test_it_is_exact(self):
        held = code(1, [X, (1, 1, 1), (5, 1, 0)], [2])
        self.told_is(held, [BIG, BIG - 1], [BIG - 3, BIG],
                     [-(BIG - 3) * (BIG - 1) ** 2, BIG ** 3])

    def test_of_an_adopted_program(self):
        cube = code(1, [X, (4, 0, 0), (4, 1, 0)], [2])
        found = ask(cube, adopt(0, 0), gradient([5, 1, 1, 1], [1, 1]), adopt(1, 1),
                    gradient([5, 1, 1, 1, 1, 1, 0, 1], [1, 1]))
        self.assertEqual(found[2], [0, 2, 30, 1, 75, 1])
        # 6 w x x' + 3 x x w' by x, w, x' and w'.
        self.assertEqual(found[4], [0, 4, 6, 1, 30, 1, 30, 1, 75, 1])


class Faults(unittest.TestCase):
    def test_the_line_is_one_of_the_trimmed_backward_program(self):
        lines = [(1, 5, 1), X, Y, (5, 1, 2)]
        held = code(2, lines, [3])
        kept, outs = untold(last(held, back(1)))
        self.assertEqual(kept[2], (5, 0, 1))
        found = ask(held, gradient([1, 1, 0, 1], [1, 1]), run([1, 1, 0, 1]))
        self.assertEqual(found[1:], [[1, 2, 1], [1, 3, 1]])

    def test_a_divisor_0_in_a_line_that_only_the_derivative_has(self):
        # 1 / x is needed by nothing that x / y's derivatives are made of.
        lines = [X, (1, 1, 1), (5, 1, 0), Y, (2, 0, 3)]
        found = ask(code(2, lines, [4]), gradient([0, 1, 5, 1], [3, 1]), run([0, 1, 5, 1]))
        self.assertEqual(found[1:], [[0, 2, 3, 1, 3, 1], [1, 2, 1]])

    def test_a_needed_division_of_the_weight(self):
        # x / 0 + y: the quotient itself isn't needed where the divisor is a constant.
        lines = [X, (1, 0, 1), (5, 0, 1)]
        kept, outs = untold(last(code(1, lines, [2]), back(1)))
        self.assertEqual(kept, [(1, 0, 1), (0, 1), (5, 1, 0)])
        found = ask(code(1, lines, [2]), gradient([4, 1], [1, 1]), run([4, 1]))
        self.assertEqual(found[1:], [[1, 2, 1], [1, 2, 1]])

    def test_a_weight_of_4000_just_met_and_just_passed(self):
        # 2 ** 3997, made of a constant, times y: the derivative by y is that times the out's weight.
        lines = power_lines(3997, (1, 2, 1))
        power = len(lines) - 1
        held = code(1, lines + [X, (4, power, power + 1)], [power + 2])
        kept, outs = untold(last(held, back(1)))
        self.assertEqual(kept, lines + [(0, 1), (4, power + 1, power)])
        for sign in (1, -1):
            self.assertEqual(last(held, gradient([1, 1], [sign * 2, 1])), [0, 1, sign * 2 ** 3998, 1])
            self.assertEqual(last(held, gradient([1, 1], [sign * 4, 1])), [1, power + 2, 2])
            self.assertEqual(last(held, gradient([1, 1], [sign * 1, 4])), [0, 1, sign * 2 ** 3995, 1])

    def test_what_is_not_needed_has_no_fault(self):
        # Line 12 is too heavy, but its derivative, 4096 x ** 4095 w, isn't made of it.
        heavy = code(1, [X] + [(4, k, k) for k in range(12)], [12])
        found = ask(heavy, run([2, 1]), gradient([2, 1], [0, 1]), gradient([2, 1], [1, 1]))
        self.assertEqual(found[1], [1, 12, 2])
        self.assertEqual(found[2], [0, 1, 0, 1])
        self.assertEqual(found[3][::2], [1, 2])

    def test_the_first_fault_counts(self):
        # Both quotients by 0 are needed; the outer one's is reached first on the way back.
        held = code(1, [X, (3, 0, 0), (5, 0, 1), (5, 2, 1)], [3])
        kept, outs = untold(last(held, back(1)))
        faulty = [k for k, line in enumerate(kept) if line[0] == 5]
        self.assertGreater(len(faulty), 1)
        self.assertEqual(last(held, gradient([7, 1], [1, 1])), [1, faulty[0], 1])


class Refused(unittest.TestCase):
    HELD = code(2, [X, Y, (4, 0, 1), (2, 0, 1), (5, 0, 0)], [2, 3, 2])

    def refused(self, inputs, weights):
        found = ask(self.HELD, gradient(inputs, weights), gradient([3, 1, 5, 1], [1, 1, 0, 1, 0, 3]))
        self.assertEqual(found[1:], [[-2], [0, 2, 5, 1, 3, 1]], (inputs, weights))

    def test_lists_of_the_wrong_length(self):
        for size in (0, 1, 2, 3, 5, 6, 10, 100):
            self.refused([1] * size, [1] * 6)
        for size in (0, 1, 2, 4, 5, 7, 8, 100):
            self.refused([1] * 4, [1] * size)
        # As many together as there should be.
        self.refused([1] * 6, [1] * 4)
        self.refused([1] * 10, [])
        self.refused([], [1] * 10)
        self.assertEqual(ask(gradient([1, 1], []), gradient([], [1, 1])), [[-2], [-2]])

    def test_denominators_below_1(self):
        for below in (0, -1, -BIG):
            self.refused([1, below, 1, 1], [1] * 6)
            self.refused([1, 1, 1, below], [1] * 6)
            self.refused([1] * 4, [1, below, 1, 1, 1, 1])
            self.refused([1] * 4, [1, 1, 1, 1, 1, below])

    def test_before_a_fault(self):
        found = ask(code(1, [X, (5, 0, 0)], [1]), gradient([0, 1], [1, 0]), gradient([0, 0], [1, 1]),
                    gradient([0, 1], [1, 1]))
        self.assertEqual(found[1:3], [[-2], [-2]])
        self.assertEqual(found[3][0], 1)


if __name__ == "__main__":
    unittest.main()
