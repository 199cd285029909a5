"""Promise 2: ahead."""

import unittest

from tests.asking import ahead, ask, code, last, run, told

X, Y = (0, 0), (0, 1)
ONE = (1, 1, 1)


class Whole(unittest.TestCase):
    """The untrimmed forward program, line by line, as the document puts it."""

    def told_is(self, n, lines, outs, put, found_outs):
        answer = last(code(n, lines, outs), ahead(0))
        self.assertEqual(answer, told(lines + put, found_outs))

    def test_at_the_beginning(self):
        self.assertEqual(ask(ahead(0), ahead(1)), [[0, 0], [0, 0]])

    def test_inputs_that_no_line_names_and_that_several_name(self):
        self.told_is(3, [Y, Y, (2, 0, 1)], [2], [(0, 4), (0, 4), (2, 3, 4)], [5])

    def test_a_direction_s_part_comes_behind_the_program_s_own_inputs(self):
        self.told_is(12, [(0, 11)], [0], [(0, 23)], [1])

    def test_a_constant(self):
        self.told_is(1, [ONE], [0], [(1, 0, 1)], [1])

    def test_a_constant_told_twice(self):
        self.told_is(1, [ONE], [0, 0], [(1, 0, 1), (1, 0, 1)], [1, 2])

    def test_outs(self):
        self.told_is(1, [ONE, X, (6, 1)], [2, 0, 1, 2, 0], [(0, 1), (6, 3), (1, 0, 1), (1, 0, 1)],
                     [4, 5, 3, 4, 6])

    def test_no_inputs(self):
        self.told_is(0, [ONE, (2, 0, 0)], [1], [(1, 0, 1)], [2])

    def test_sums(self):
        self.told_is(2, [X, Y, (2, 0, 1)], [2], [(0, 2), (0, 3), (2, 3, 4)], [5])
        self.told_is(1, [X, ONE, (2, 0, 1)], [2], [(0, 1)], [3])
        self.told_is(1, [X, ONE, (2, 1, 0)], [2], [(0, 1)], [3])
        self.told_is(1, [X, ONE, (2, 1, 1)], [2], [(0, 1), (1, 0, 1)], [4])
        self.told_is(1, [X, (2, 0, 0)], [1], [(0, 1), (2, 2, 2)], [3])

    def test_differences(self):
        self.told_is(2, [X, Y, (3, 1, 0)], [2], [(0, 2), (0, 3), (3, 4, 3)], [5])
        self.told_is(1, [X, ONE, (3, 0, 1)], [2], [(0, 1)], [3])
        self.told_is(1, [X, ONE, (3, 1, 0)], [2], [(0, 1), (6, 3)], [4])
        self.told_is(1, [X, ONE, (3, 1, 1)], [2], [(0, 1), (1, 0, 1)], [4])
        self.told_is(1, [X, (3, 0, 0)], [1], [(0, 1), (3, 2, 2)], [3])

    def test_products(self):
        put = [(0, 2), (0, 3), (4, 3, 1), (4, 0, 4), (2, 5, 6)]
        self.told_is(2, [X, Y, (4, 0, 1)], [2], put, [7])
        self.told_is(1, [X, ONE, (4, 0, 1)], [2], [(0, 1), (4, 3, 1)], [4])
        self.told_is(1, [X, ONE, (4, 1, 0)], [2], [(0, 1), (4, 1, 3)], [4])
        self.told_is(1, [X, ONE, (4, 1, 1)], [2], [(0, 1), (1, 0, 1)], [4])
        self.told_is(1, [X, (4, 0, 0)], [1], [(0, 1), (4, 2, 0), (4, 0, 2), (2, 3, 4)], [5])

    def test_quotients(self):
        put = [(0, 2), (0, 3), (4, 2, 4), (3, 3, 5), (5, 6, 1)]
        self.told_is(2, [X, Y, (5, 0, 1)], [2], put, [7])
        self.told_is(1, [X, ONE, (5, 0, 1)], [2], [(0, 1), (5, 3, 1)], [4])
        put = [(0, 1), (4, 2, 3), (5, 4, 0), (6, 5)]
        self.told_is(1, [X, ONE, (5, 1, 0)], [2], put, [6])
        self.told_is(1, [X, ONE, (5, 1, 1)], [2], [(0, 1), (1, 0, 1)], [4])
        put = [(0, 1), (4, 1, 2), (3, 2, 3), (5, 4, 0)]
        self.told_is(1, [X, (5, 0, 0)], [1], put, [5])

    def test_opposites(self):
        self.told_is(1, [X, (6, 0)], [1], [(0, 1), (6, 2)], [3])
        self.told_is(1, [ONE, (6, 0)], [1], [(1, 0, 1)], [2])

    def test_changes_are_put_in_the_order_of_lines(self):
        lines = [Y, ONE, (6, 0), X, (4, 2, 3), (3, 1, 4)]
        put = [(0, 3), (6, 6), (0, 2), (4, 7, 3), (4, 2, 8), (2, 9, 10), (6, 11)]
        self.told_is(2, lines, [5, 4], put, [12, 11])

    def test_lines_without_change_stay_so_through_all_kinds(self):
        lines = [ONE, (6, 0), (2, 0, 1), (3, 1, 2), (4, 3, 0), (5, 4, 0), X, (4, 6, 5)]
        self.told_is(1, lines, [7], [(0, 1), (4, 8, 5)], [9])

    def test_a_constant_0_stands_for_none_too(self):
        # What counts is that it's a constant, not that it's 0.
        self.told_is(1, [X, (1, 0, 1), (4, 0, 1)], [2], [(0, 1), (4, 3, 1)], [4])


class Trimmed(unittest.TestCase):
    def told_is(self, n, lines, outs, kept, found_outs):
        answer = last(code(n, lines, outs), ahead(1))
        self.assertEqual(answer, told(kept, found_outs))

    def test_a_sum_needs_its_changes_alone(self):
        kept = [(0, 2), (0, 3), (2, 0, 1)]
        self.told_is(2, [X, Y, (2, 0, 1)], [2], kept, [2])

    def test_a_product_needs_its_factors(self):
        kept = [X, Y, (0, 2), (0, 3), (4, 2, 1), (4, 0, 3), (2, 4, 5)]
        self.told_is(2, [X, Y, (4, 0, 1)], [2], kept, [6])

    def test_lines_are_named_by_their_new_numbers(self):
        lines = [ONE, X, (6, 1), ONE, (5, 2, 1), (6, 4)]
        kept = [X, (6, 0), (5, 1, 0), (0, 1), (6, 3), (4, 2, 3), (3, 4, 5), (5, 6, 0), (6, 7)]
        self.told_is(1, lines, [5, 5], kept, [8, 8])

    def test_an_out_without_change(self):
        self.told_is(1, [X, (1, 4, 2), (2, 1, 1)], [2], [(1, 0, 1)], [0])


class Refused(unittest.TestCase):
    def test_trim_that_is_neither_0_nor_1(self):
        for trim in (-1, 2, 3, 10 ** 18, -10 ** 18):
            found = ask(ahead(trim), code(1, [X], [0]), ahead(trim), run([2, 1]))
            self.assertEqual(found, [[-1], [1], [-1], [0, 1, 2, 1]])

    def test_the_held_program_stays(self):
        found = ask(code(1, [X, (4, 0, 0)], [1]), ahead(0), ahead(1), ahead(0), run([3, 1]))
        self.assertEqual(found[1], found[3])
        self.assertEqual(found[4], [0, 1, 9, 1])


if __name__ == "__main__":
    unittest.main()
