"""Promise 4: change."""

import unittest

from tests.asking import adopt, ahead, ask, change, code, held_lines, last, power_lines, run, untold

X, Y = (0, 0), (0, 1)
ONE = (1, 1, 1)
BIG = 10 ** 18


class Values(unittest.TestCase):
    def told_is(self, held, inputs, direction, values):
        found = ask(held, change(inputs, direction), adopt(1, 1), run(inputs + direction))
        self.assertEqual(found[1], [0, len(values) // 2] + values)
        self.assertEqual(found[3], found[1])

    def test_at_the_beginning(self):
        self.assertEqual(ask(change([], [])), [[0, 0]])

    def test_operations(self):
        self.told_is(code(2, [X, Y, (2, 0, 1)], [2]), [3, 1, 5, 1], [2, 7, 1, 1], [9, 7])
        self.told_is(code(2, [X, Y, (3, 0, 1)], [2]), [3, 1, 5, 1], [2, 7, 1, 1], [-5, 7])
        self.told_is(code(2, [X, Y, (4, 0, 1)], [2]), [3, 1, 5, 2], [2, 7, 1, 1], [26, 7])
        self.told_is(code(2, [X, Y, (5, 0, 1)], [2]), [3, 1, 5, 1], [1, 1, 1, 1], [2, 25])
        self.told_is(code(1, [X, (6, 0)], [1]), [3, 1], [2, 7], [-2, 7])

    def test_operations_of_which_one_side_has_no_change(self):
        three = (1, 3, 1)
        for kind, first, second in ((2, [2, 1], [2, 1]), (3, [2, 1], [-2, 1]), (4, [6, 1], [6, 1]),
                                    (5, [2, 3], [-6, 25])):
            self.told_is(code(1, [X, three, (kind, 0, 1)], [2]), [5, 1], [2, 1], first)
            self.told_is(code(1, [X, three, (kind, 1, 0)], [2]), [5, 1], [2, 1], second)

    def test_several_outs_in_order(self):
        held = code(2, [X, Y, (4, 0, 1), (2, 0, 1), ONE], [2, 4, 3, 2, 0])
        self.told_is(held, [3, 1, 5, 1], [1, 1, 10, 1], [35, 1, 0, 1, 11, 1, 35, 1, 1, 1])

    def test_the_direction_s_parts_come_behind_the_inputs(self):
        # x x' and y y' tell which of the four is which.
        held = code(2, [X, Y, (4, 0, 0), (4, 1, 1)], [2, 3])
        self.told_is(held, [2, 1, 3, 1], [5, 1, 7, 1], [20, 1, 42, 1])

    def test_inputs_that_no_line_names_have_parts_too(self):
        self.told_is(code(3, [Y], [0]), [3, 1, 5, 1, 7, 1], [1, 1, 2, 1, 4, 1], [2, 1])
        self.told_is(code(0, [ONE], [0, 0]), [], [], [0, 1, 0, 1])

    def test_negative_ones_and_such_that_are_not_in_lowest_terms(self):
        held = code(2, [X, Y, (4, 0, 1), (5, 2, 0)], [2])
        self.told_is(held, [-6, 4, 10, 15], [-14, 21, 2, 4], [-43, 36])
        self.told_is(held, [0, 4, 0, 15], [0, 21, 0, 4], [0, 1])

    def test_it_is_exact(self):
        held = code(1, [X, ONE, (5, 1, 0)], [2])
        self.told_is(held, [BIG, BIG - 1], [BIG - 3, BIG], [-(BIG - 3) * (BIG - 1) ** 2, BIG ** 3])

    def test_of_an_adopted_program(self):
        cube = code(1, [X, (4, 0, 0), (4, 1, 0)], [2])
        for trim in (0, 1):
            # Of 3 x x x' by x alone, then by both; 3 x x w has the same change.
            for which in (0, 1):
                found = ask(cube, adopt(which, trim), change([5, 1, 1, 1], [1, 1, 0, 1]),
                            change([5, 1, 1, 1], [1, 1, 2, 1]))
                self.assertEqual(found[2:], [[0, 1, 30, 1], [0, 1, 180, 1]])
        found = ask(cube, adopt(1, 1), adopt(1, 1), change([5, 1, 1, 1, 1, 1, 0, 1], [1, 1] + [0, 1] * 3))
        self.assertEqual(found[3], [0, 1, 6, 1])


class Faults(unittest.TestCase):
    def test_the_line_is_one_of_the_trimmed_forward_program(self):
        held = code(2, [(1, 5, 1), X, Y, (5, 1, 2)], [3])
        kept, outs = untold(last(held, ahead(1)))
        self.assertEqual(kept[2], (5, 0, 1))
        found = ask(held, change([1, 1, 0, 1], [1, 1, 1, 1]), run([1, 1, 0, 1]))
        self.assertEqual(found[1:], [[1, 2, 1], [1, 3, 1]])

    def test_a_line_that_only_the_forward_program_has(self):
        # x / 0: its change is x' / 0, and the quotient itself isn't needed.
        held = code(1, [X, (1, 0, 1), (5, 0, 1)], [2])
        kept, outs = untold(last(held, ahead(1)))
        self.assertEqual(kept, [(1, 0, 1), (0, 1), (5, 1, 0)])
        self.assertEqual(last(held, change([4, 1], [1, 1])), [1, 2, 1])

    def test_what_is_not_needed_has_no_fault(self):
        # 1 / x is needed by nothing that the change of x + y is made of.
        lines = [X, ONE, (5, 1, 0), Y, (2, 0, 3)]
        found = ask(code(2, lines, [4]), change([0, 1, 5, 1], [3, 1, 4, 1]), run([0, 1, 5, 1]))
        self.assertEqual(found[1:], [[0, 1, 7, 1], [1, 2, 1]])
        # Line 12 is too heavy, but its change, 4096 x ** 4095 x', isn't made of it.
        heavy = code(1, [X] + [(4, k, k) for k in range(12)], [12])
        found = ask(heavy, run([2, 1]), change([2, 1], [0, 1]), change([2, 1], [1, 1]))
        self.assertEqual(found[1], [1, 12, 2])
        self.assertEqual(found[2], [0, 1, 0, 1])
        self.assertEqual(found[3][::2], [1, 2])

    def test_a_weight_of_4000_just_met_and_just_passed(self):
        # 2 ** 3997, made of a constant, times x: the change is that times the direction's part.
        lines = power_lines(3997, (1, 2, 1))
        power = len(lines) - 1
        held = code(1, lines + [X, (4, power, power + 1)], [power + 2])
        kept, outs = untold(last(held, ahead(1)))
        self.assertEqual(kept, lines + [(0, 1), (4, power, power + 1)])
        for sign in (1, -1):
            self.assertEqual(last(held, change([1, 1], [sign * 2, 1])), [0, 1, sign * 2 ** 3998, 1])
            self.assertEqual(last(held, change([1, 1], [sign * 4, 1])), [1, power + 2, 2])
            self.assertEqual(last(held, change([1, 1], [sign * 1, 4])), [0, 1, sign * 2 ** 3995, 1])

    def test_the_first_fault_counts(self):
        # In x / 0 / 0 both quotients are needed, and the inner one comes first.
        held = code(1, [X, (3, 0, 0), (5, 0, 1), (5, 2, 1)], [3])
        kept, outs = untold(last(held, ahead(1)))
        faulty = [k for k, line in enumerate(kept) if line[0] == 5]
        self.assertGreater(len(faulty), 1)
        self.assertEqual(last(held, change([7, 1], [1, 1])), [1, faulty[0], 1])


class Refused(unittest.TestCase):
    LINES = [X, Y, (4, 0, 1), (2, 0, 1), (5, 0, 0)]

    def refused(self, inputs, direction):
        held = code(2, self.LINES, [2, 3, 2])
        found = ask(held, held_lines(), change(inputs, direction), held_lines(),
                    change([3, 1, 5, 1], [1, 1, 0, 3]))
        self.assertEqual(found[2], [-2], (inputs, direction))
        self.assertEqual(found[1], found[3])
        self.assertEqual(found[4], [0, 3, 5, 1, 1, 1, 5, 1])

    def test_lists_of_the_wrong_length(self):
        for size in (0, 1, 2, 3, 5, 6, 8, 10, 100):
            self.refused([1] * size, [1] * 4)
            self.refused([1] * 4, [1] * size)
        # As many together as there should be, or as many as there are outs.
        self.refused([1] * 6, [1] * 2)
        self.refused([1] * 2, [1] * 6)
        self.refused([1] * 8, [])
        self.refused([], [1] * 8)
        self.refused([1] * 4, [1] * 6)
        self.assertEqual(ask(change([1, 1], []), change([], [1, 1])), [[-2], [-2]])

    def test_denominators_below_1(self):
        for below in (0, -1, -BIG):
            self.refused([1, below, 1, 1], [1] * 4)
            self.refused([1, 1, 1, below], [1] * 4)
            self.refused([1] * 4, [1, below, 1, 1])
            self.refused([1] * 4, [1, 1, 1, below])

    def test_before_a_fault(self):
        found = ask(code(1, [X, (5, 0, 0)], [1]), change([0, 1], [1, 0]), change([0, 0], [1, 1]),
                    change([0, 1], [1, 1]))
        self.assertEqual(found[1:3], [[-2], [-2]])
        self.assertEqual(found[3], [1, 1, 1])

    def test_of_an_adopted_program(self):
        found = ask(code(1, [X, (4, 0, 0)], [1]), adopt(0, 1), change([3, 1], [1, 1]),
                    change([3, 1, 1, 2], [1, 1]), change([3, 1, 1, 2], [1, 1, 0, 1]))
        self.assertEqual(found[2:], [[-2], [-2], [0, 1, 1, 1]])


if __name__ == "__main__":
    unittest.main()
