"""Promise 2: back."""

import unittest

from tests.asking import ask, back, code, last, run, told

X, Y = (0, 0), (0, 1)


class Whole(unittest.TestCase):
    """The untrimmed backward program, line by line, as the document's steps put it."""

    def told_is(self, n, lines, outs, put, found_outs):
        answer = last(code(n, lines, outs), back(0))
        self.assertEqual(answer, told(lines + put, found_outs))

    def test_at_the_beginning(self):
        self.assertEqual(ask(back(0), back(1)), [[0, 0], [0, 0]])

    def test_an_input(self):
        self.told_is(1, [X], [0], [(0, 1)], [1])

    def test_a_constant(self):
        self.told_is(1, [(1, 1, 2)], [0], [(0, 1), (1, 0, 1)], [2])

    def test_a_sum(self):
        self.told_is(2, [X, Y, (2, 0, 1)], [2], [(0, 2)], [3, 3])

    def test_a_difference(self):
        self.told_is(2, [X, Y, (3, 0, 1)], [2], [(0, 2), (6, 3)], [3, 4])

    def test_a_product(self):
        self.told_is(2, [X, Y, (4, 0, 1)], [2], [(0, 2), (4, 3, 1), (4, 3, 0)], [4, 5])

    def test_a_quotient(self):
        put = [(0, 2), (5, 3, 1), (4, 4, 2), (6, 5)]
        self.told_is(2, [X, Y, (5, 0, 1)], [2], put, [4, 6])

    def test_an_opposite(self):
        self.told_is(1, [X, (6, 0)], [1], [(0, 1), (6, 2)], [3])

    def test_a_line_used_twice_by_a_sum(self):
        self.told_is(1, [X, (2, 0, 0)], [1], [(0, 1), (2, 2, 2)], [3])

    def test_a_line_used_twice_by_a_difference(self):
        self.told_is(1, [X, (3, 0, 0)], [1], [(0, 1), (6, 2), (2, 2, 3)], [4])

    def test_a_line_used_twice_by_a_product(self):
        put = [(0, 1), (4, 2, 0), (4, 2, 0), (2, 3, 4)]
        self.told_is(1, [X, (4, 0, 0)], [1], put, [5])

    def test_a_line_used_twice_by_a_quotient(self):
        put = [(0, 1), (5, 2, 0), (4, 3, 1), (6, 4), (2, 3, 5)]
        self.told_is(1, [X, (5, 0, 0)], [1], put, [6])

    def test_sums_stand_between_the_lines_of_one_step(self):
        # The product's first part is added to the weight of j before its second is put.
        lines = [X, Y, (4, 0, 1), (2, 2, 0)]
        put = [(0, 2), (4, 4, 1), (2, 4, 5), (4, 4, 0)]
        self.told_is(2, lines, [3], put, [6, 7])

    def test_sums_stand_between_the_lines_of_a_quotient(self):
        lines = [X, Y, (5, 0, 1), (2, 0, 1), (2, 3, 2)]
        put = [(0, 2), (5, 5, 1), (2, 5, 6), (4, 6, 2), (6, 8), (2, 5, 9)]
        self.told_is(2, lines, [4], put, [7, 10])

    def test_sums_stand_between_the_lines_of_a_difference(self):
        lines = [X, Y, (3, 0, 1)]
        put = [(0, 2), (0, 3), (0, 4), (2, 3, 4), (6, 4), (2, 5, 7)]
        self.told_is(2, lines, [0, 2, 1], put, [6, 8])

    def test_outs_told_twice(self):
        self.told_is(1, [X], [0, 0], [(0, 1), (0, 2), (2, 1, 2)], [3])
        put = [(0, 1), (0, 2), (2, 1, 2), (0, 3), (2, 3, 4)]
        self.told_is(1, [X], [0, 0, 0], put, [5])

    def test_outs_weights_are_put_in_the_order_of_outs(self):
        lines = [X, (6, 0)]
        put = [(0, 1), (0, 2), (6, 2), (2, 3, 4)]
        self.told_is(1, lines, [1, 0], put, [5])

    def test_inputs_that_no_line_names(self):
        put = [(0, 3), (1, 0, 1), (1, 0, 1)]
        self.told_is(3, [Y], [0], put, [2, 1, 3])

    def test_inputs_whose_lines_hang_on_nothing(self):
        self.told_is(2, [X, Y], [1], [(0, 2), (1, 0, 1)], [3, 2])

    def test_inputs_that_several_lines_name(self):
        # Three lines are input 0, in the order 0, 1, 3; the middle sum is put first.
        lines = [X, X, (4, 0, 1), X, (2, 2, 3)]
        put = [(0, 1), (4, 5, 1), (4, 5, 0), (2, 6, 7), (2, 8, 5)]
        self.told_is(1, lines, [4], put, [9])

    def test_a_line_of_an_input_whose_weight_none_holds_is_passed_over(self):
        lines = [X, X, X, (2, 0, 2)]
        self.told_is(1, lines, [3], [(0, 1), (2, 4, 4)], [5])

    def test_a_holder_of_two_weights_is_taken_twice(self):
        self.told_is(1, [X, X, (2, 0, 1)], [2], [(0, 1), (2, 3, 3)], [4])

    def test_sums_of_inputs_are_put_input_by_input(self):
        lines = [Y, X, Y, X, (2, 0, 1), (2, 2, 3), (4, 4, 5)]
        put = [(0, 3), (4, 7, 5), (4, 7, 4), (2, 8, 9), (2, 8, 9), (1, 0, 1)]
        self.told_is(3, lines, [6], put, [10, 11, 12])

    def test_lines_without_weight_put_nothing(self):
        lines = [X, (4, 0, 0), (5, 1, 0), (3, 0, 1), (6, 2)]
        self.told_is(1, lines, [0], [(0, 1)], [5])

    def test_constants_get_weights_that_go_no_further(self):
        lines = [(1, -2, 4), X, (4, 0, 1)]
        held = [(1, -1, 2), X, (4, 0, 1)]
        answer = last(code(1, lines, [2]), back(0))
        self.assertEqual(answer, told(held + [(0, 1), (4, 3, 1), (4, 3, 0)], [5]))

    def test_no_inputs(self):
        self.told_is(0, [(1, 1, 1), (6, 0)], [1], [(0, 0), (6, 2)], [])

    def test_weights_come_behind_the_program_s_own_inputs(self):
        lines = [(0, 11)]
        put = [(0, 12)] + [(1, 0, 1)] * 11
        self.told_is(12, lines, [0], put, list(range(2, 13)) + [1])


class Trimmed(unittest.TestCase):
    def told_is(self, n, lines, outs, kept, found_outs):
        answer = last(code(n, lines, outs), back(1))
        self.assertEqual(answer, told(kept, found_outs))

    def test_a_sum_needs_its_weight_alone(self):
        self.told_is(2, [X, Y, (2, 0, 1)], [2], [(0, 2)], [0, 0])

    def test_a_product_needs_its_factors(self):
        kept = [X, Y, (0, 2), (4, 2, 1), (4, 2, 0)]
        self.told_is(2, [X, Y, (4, 0, 1)], [2], kept, [3, 4])

    def test_a_quotient_needs_itself(self):
        kept = [X, Y, (5, 0, 1), (0, 2), (5, 3, 1), (4, 4, 2), (6, 5)]
        self.told_is(2, [X, Y, (5, 0, 1)], [2], kept, [4, 6])

    def test_lines_are_named_by_their_new_numbers(self):
        lines = [(1, 5, 1), X, (6, 0), (4, 1, 1), (1, 7, 2), (4, 4, 3)]
        kept = [X, (1, 7, 2), (0, 1), (4, 2, 1), (4, 3, 0), (4, 3, 0), (2, 4, 5)]
        self.told_is(1, lines, [5], kept, [6])

    def test_every_kind_is_renamed(self):
        lines = [(1, 9, 1), X, (2, 1, 1), (3, 2, 1), (5, 3, 2), (6, 4), (4, 5, 5)]
        kept = [X, (2, 0, 0), (3, 1, 0), (5, 2, 1), (6, 3), (0, 1)]
        kept += [(4, 5, 4), (4, 5, 4), (2, 6, 7), (6, 8), (5, 9, 1), (4, 10, 3), (6, 11)]
        kept += [(2, 12, 10), (6, 10), (2, 14, 13), (2, 15, 13)]
        self.told_is(1, lines, [6], kept, [16])

    def test_constants_for_inputs_without_weight_stay(self):
        self.told_is(2, [X, (6, 0)], [0], [(0, 2), (1, 0, 1)], [0, 1])

    def test_no_inputs_leave_nothing(self):
        self.told_is(0, [(1, 1, 1)], [0], [], [])


class Refused(unittest.TestCase):
    def test_trim_that_is_neither_0_nor_1(self):
        for trim in (-1, 2, 3, 10 ** 18, -10 ** 18):
            found = ask(back(trim), code(1, [X], [0]), back(trim), run([2, 1]))
            self.assertEqual(found, [[-1], [1], [-1], [0, 1, 2, 1]])

    def test_the_held_program_stays(self):
        found = ask(code(1, [X, (4, 0, 0)], [1]), back(0), back(1), back(0), run([3, 1]))
        self.assertEqual(found[1], found[3])
        self.assertEqual(found[4], [0, 1, 9, 1])


if __name__ == "__main__":
    unittest.main()
