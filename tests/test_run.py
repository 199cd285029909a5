"""Promise 4: run."""

import unittest

from tests.asking import adopt, ask, code, last, power_lines, run

X, Y = (0, 0), (0, 1)
BIG = 10 ** 18


def power(exponent):
    """The code of such a power, and its line."""
    lines = power_lines(exponent)
    return code(1, lines, [len(lines) - 1]), len(lines) - 1


class Values(unittest.TestCase):
    def value(self, n, lines, inputs):
        found = ask(code(n, lines, [len(lines) - 1]), run(inputs))
        self.assertEqual(found[0], [len(lines)])
        self.assertEqual(found[1][:2], [0, 1])
        return tuple(found[1][2:])

    def test_at_the_beginning(self):
        self.assertEqual(ask(run([])), [[0, 0]])

    def test_operations(self):
        self.assertEqual(self.value(2, [X, Y, (2, 0, 1)], [1, 6, 1, 3]), (1, 2))
        self.assertEqual(self.value(2, [X, Y, (3, 0, 1)], [1, 6, 2, 3]), (-1, 2))
        self.assertEqual(self.value(2, [X, Y, (4, 0, 1)], [4, 9, 3, 8]), (1, 6))
        self.assertEqual(self.value(2, [X, Y, (5, 0, 1)], [4, 9, 8, 3]), (1, 6))
        self.assertEqual(self.value(1, [X, (6, 0)], [4, 9]), (-4, 9))

    def test_the_order_of_what_a_line_is_made_of(self):
        self.assertEqual(self.value(2, [X, Y, (3, 1, 0)], [1, 6, 2, 3]), (1, 2))
        self.assertEqual(self.value(2, [X, Y, (5, 1, 0)], [4, 9, 8, 3]), (6, 1))

    def test_negative_ones(self):
        self.assertEqual(self.value(2, [X, Y, (2, 0, 1)], [-1, 6, -1, 3]), (-1, 2))
        self.assertEqual(self.value(2, [X, Y, (3, 0, 1)], [-1, 6, -1, 3]), (1, 6))
        self.assertEqual(self.value(2, [X, Y, (4, 0, 1)], [-4, 9, -3, 8]), (1, 6))
        self.assertEqual(self.value(2, [X, Y, (4, 0, 1)], [-4, 9, 3, 8]), (-1, 6))
        self.assertEqual(self.value(2, [X, Y, (5, 0, 1)], [4, 9, -8, 3]), (-1, 6))
        self.assertEqual(self.value(2, [X, Y, (5, 0, 1)], [-4, 9, -8, 3]), (1, 6))
        self.assertEqual(self.value(2, [X, Y, (5, 0, 1)], [-4, 9, 8, 3]), (-1, 6))
        self.assertEqual(self.value(1, [X, (6, 0)], [-4, 9]), (4, 9))

    def test_nought_is_over_1(self):
        self.assertEqual(self.value(2, [X, Y, (2, 0, 1)], [-1, 6, 1, 6]), (0, 1))
        self.assertEqual(self.value(2, [X, Y, (3, 0, 1)], [1, 6, 1, 6]), (0, 1))
        self.assertEqual(self.value(2, [X, Y, (4, 0, 1)], [0, 9, 5, 8]), (0, 1))
        self.assertEqual(self.value(2, [X, Y, (4, 0, 1)], [5, 9, 0, 8]), (0, 1))
        self.assertEqual(self.value(2, [X, Y, (5, 0, 1)], [0, 9, -5, 8]), (0, 1))
        self.assertEqual(self.value(1, [X, (6, 0)], [0, 9]), (0, 1))

    def test_inputs_that_are_not_in_lowest_terms(self):
        self.assertEqual(self.value(1, [X], [6, 4]), (3, 2))
        self.assertEqual(self.value(1, [X], [-6, 4]), (-3, 2))
        self.assertEqual(self.value(1, [X], [0, 4]), (0, 1))
        self.assertEqual(self.value(1, [X], [BIG, BIG]), (1, 1))
        self.assertEqual(self.value(2, [X, Y, (4, 0, 1)], [6, 4, 10, 15]), (1, 1))
        self.assertEqual(self.value(2, [X, Y, (2, 0, 1)], [6, 4, 10, 4]), (4, 1))

    def test_it_is_exact(self):
        self.assertEqual(self.value(2, [X, Y, (4, 0, 1)], [BIG, BIG - 1, BIG, BIG - 3]),
                         (BIG * BIG, (BIG - 1) * (BIG - 3)))
        self.assertEqual(self.value(2, [X, Y, (3, 0, 1)], [1, BIG - 1, 1, BIG]), (1, (BIG - 1) * BIG))
        self.assertEqual(self.value(2, [X, Y, (2, 0, 1)], [BIG, 1, 1, BIG]), (BIG * BIG + 1, BIG))

    def test_the_order_of_inputs_and_outs(self):
        lines = [(0, 2), X, (1, -1, 2), (2, 0, 1)]
        found = last(code(3, lines, [3, 0, 2, 1, 0]), run([1, 1, 20, 1, 300, 1]))
        self.assertEqual(found, [0, 5, 301, 1, 300, 1, -1, 2, 1, 1, 300, 1])

    def test_many_digits(self):
        asked, line = power(3998)
        self.assertEqual(last(asked, run([2, 1])), [0, 1, 2 ** 3998, 1])
        self.assertEqual(len(str(2 ** 3998)), 1204)


class Faults(unittest.TestCase):
    def test_a_divisor_0(self):
        self.assertEqual(last(code(2, [X, Y, (5, 0, 1)], [0]), run([1, 1, 0, 5])), [1, 2, 1])
        self.assertEqual(last(code(1, [X, (5, 0, 0)], [1]), run([0, 1])), [1, 1, 1])
        lines = [X, X, (3, 0, 1), (6, 0), (5, 3, 2)]
        self.assertEqual(last(code(1, lines, [3]), run([7, 2])), [1, 4, 1])
        self.assertEqual(last(code(0, [(1, 1, 1), (1, 0, 4), (5, 0, 1)], [2]), run([])), [1, 2, 1])

    def test_the_first_fault_counts(self):
        lines = [X, (6, 0), (5, 1, 0), (6, 0), (5, 3, 0)]
        self.assertEqual(last(code(1, lines, [4]), run([0, 1])), [1, 2, 1])

    def test_a_line_that_no_out_hangs_on_has_faults_too(self):
        lines = [X, (5, 0, 0), (6, 0)]
        self.assertEqual(last(code(1, lines, [2]), run([0, 1])), [1, 1, 1])

    def test_a_weight_just_met_and_just_passed(self):
        met, line = power(3998)
        passed, line_passed = power(3999)
        for sign in (1, -1):
            self.assertEqual(last(met, run([sign * 2, 1]))[:2], [0, 1])
            self.assertEqual(last(met, run([sign * 1, 2]))[:2], [0, 1])
            self.assertEqual(last(passed, run([sign * 2, 1])), [1, line_passed, 2])
            self.assertEqual(last(passed, run([sign * 1, 2])), [1, line_passed, 2])

    def test_the_weight_is_of_both_numbers(self):
        for exponent, below, heavy in ((3939, 2 ** 59 + 1, False), (3940, 2 ** 59 + 1, True),
                                       (3940, 2 ** 58 + 1, False), (3941, 2 ** 58 + 1, True)):
            lines = power_lines(exponent)
            top = len(lines) - 1
            lines += [Y, (5, top, top + 1)]
            weight = (2 ** exponent).bit_length() + below.bit_length()
            self.assertEqual(weight, 4001 if heavy else 4000)
            for sign in (1, -1):
                found = last(code(2, lines, [top + 2]), run([2, 1, sign * below, 1]))
                met = [0, 1, sign * 2 ** exponent, below]
                self.assertEqual(found, [1, top + 2, 2] if heavy else met)

    def test_the_weight_is_that_of_lowest_terms(self):
        # 6 ** 1530 times 1 / 3 ** 37: not in lowest terms the two would weigh more than 4000.
        lines = power_lines(1530)
        top = len(lines) - 1
        lines += [(1, 1, 3 ** 37), (4, top, top + 1)]
        self.assertGreater((6 ** 1530).bit_length() + (3 ** 37).bit_length(), 4000)
        self.assertEqual(last(code(1, lines, [top + 2]), run([6, 1])),
                         [0, 1, 2 ** 1530 * 3 ** 1493, 1])

    def test_the_first_of_both_faults_counts(self):
        heavy = power_lines(3999)
        passed = len(heavy) - 1
        lines = heavy + [(3, 0, 0), (5, 0, passed + 1)]
        self.assertEqual(last(code(1, lines, [0]), run([2, 1])), [1, passed, 2])
        self.assertEqual(last(code(1, lines, [0]), run([1, 1])), [1, passed + 2, 1])
        early = [X, (3, 0, 0), (5, 0, 1)] + [(4, k, k) for k in (0, 3, 4, 5, 6, 7, 8, 9, 10, 11, 12, 13)]
        self.assertEqual(last(code(1, early, [0]), run([2, 1])), [1, 2, 1])
        early[2] = (6, 0)
        self.assertEqual(last(code(1, early, [0]), run([2, 1])), [1, 14, 2])

    def test_a_heavy_line_made_of_the_same_line_by_every_kind(self):
        met = power_lines(3998)
        top = len(met) - 1
        kinds = {2: [(2, top, top)], 4: [(4, top, 0)], 3: [(6, top), (3, top, top + 1)],
                 5: [(1, 1, 2), (5, top, top + 1)]}
        for kind, behind in kinds.items():
            lines = met + behind
            self.assertEqual(last(code(1, lines, [0]), run([2, 1])), [1, len(lines) - 1, 2], kind)
        lines = met + [(6, top)]
        self.assertEqual(last(code(1, lines, [top + 1]), run([2, 1])), [0, 1, -2 ** 3998, 1])

    def test_a_fault_changes_nothing(self):
        found = ask(code(1, [X, (5, 0, 0)], [1]), run([0, 1]), run([2, 1]), run([0, 1]))
        self.assertEqual(found, [[2], [1, 1, 1], [0, 1, 1, 1], [1, 1, 1]])


class Refused(unittest.TestCase):
    def refused(self, inputs):
        held = code(2, [X, Y, (4, 0, 1)], [2])
        found = ask(held, run(inputs), run([3, 1, 5, 1]))
        self.assertEqual(found[1:], [[-2], [0, 1, 15, 1]], inputs)

    def test_lists_of_the_wrong_length(self):
        for size in (0, 1, 2, 3, 5, 6, 100):
            self.refused([1] * size)
        self.assertEqual(ask(run([1]), run([1, 1])), [[-2], [-2]])

    def test_denominators_below_1(self):
        for below in (0, -1, -BIG):
            self.refused([1, below, 1, 1])
            self.refused([1, 1, 1, below])

    def test_inputs_that_no_line_names_count(self):
        self.assertEqual(ask(code(3, [X], [0]), run([1, 1]), run([1, 1] * 3), run([1, 1, 1, 0, 1, 1])),
                         [[1], [-2], [0, 1, 1, 1], [-2]])

    def test_before_a_fault(self):
        found = ask(code(1, [X, (5, 0, 0)], [1]), run([0, 0]), run([0, 1, 0, 1]), run([]))
        self.assertEqual(found[1:], [[-2]] * 3)

    def test_of_an_adopted_program(self):
        found = ask(code(1, [X, (4, 0, 0)], [1]), adopt(0, 1), run([3, 1]), run([3, 1, 1, 2]))
        self.assertEqual(found[2:], [[-2], [0, 1, 3, 1]])


if __name__ == "__main__":
    unittest.main()
