"""Promise 1: code."""

import unittest

from tests.asking import ahead, ask, back, code, flat, last, run, untold

EVERY_KIND = [(0, 0), (1, 3, 4), (2, 0, 1), (3, 0, 1), (4, 2, 3), (5, 4, 1), (6, 5), (0, 1)]
SMALL = code(1, [(0, 0)], [0])
BIG = 10 ** 18


def held(*calls):
    """The lines of the program that the calls leave held."""
    lines, outs = untold(last(*calls, ahead(0)))
    return lines


class Taken(unittest.TestCase):
    def test_the_document_s_example(self):
        found = ask(code(2, [0, 0, 0, 1, 4, 0, 1, 2, 2, 0], [3]), run([3, 1, 5, 1]))
        self.assertEqual(found, [[4], [0, 1, 18, 1]])

    def test_every_kind_of_line(self):
        found = ask(code(2, EVERY_KIND, [2, 3, 4, 5, 6, 7]), run([1, 2, -2, 5]))
        values = [5, 4, -1, 4, -5, 16, -5, 12, 5, 12, -2, 5]
        self.assertEqual(found, [[8], [0, 6] + values])

    def test_the_lines_are_held_as_they_are(self):
        self.assertEqual(held(code(2, EVERY_KIND, [0]))[:8], EVERY_KIND)

    def test_constants_are_held_in_lowest_terms(self):
        lines = [(1, 6, 4), (1, 0, 7), (1, -8, 4), (1, -BIG, BIG), (1, BIG, 1)]
        lowest = [(1, 3, 2), (1, 0, 1), (1, -2, 1), (1, -1, 1), (1, BIG, 1)]
        self.assertEqual(held(code(0, lines, [0]))[:5], lowest)

    def test_another_code_takes_its_place(self):
        found = ask(SMALL, code(0, [(1, 1, 2), (6, 0)], [1]), run([]))
        self.assertEqual(found, [[1], [2], [0, 1, -1, 2]])

    def test_no_inputs_and_twelve(self):
        self.assertEqual(last(code(0, [(1, 1, 1)], [0])), [1])
        twelve = [(0, k) for k in range(12)]
        self.assertEqual(ask(code(12, twelve, [11]), run([2, 1] * 11 + [7, 3])), [[12], [0, 1, 7, 3]])

    def test_eighty_lines(self):
        lines = [(0, 0)] + [(6, k) for k in range(79)]
        self.assertEqual(ask(code(1, lines, [79]), run([5, 1])), [[80], [0, 1, -5, 1]])
        constants = [(1, 1, 1)] * 80
        self.assertEqual(last(code(0, constants, [79])), [80])

    def test_outs(self):
        lines = [(0, 0), (6, 0)]
        for outs in ([0], [1, 0], [1, 1, 1, 1, 1, 1], [0, 1, 0, 1, 0, 1]):
            values = flat([((3, -3)[out], 1) for out in outs])
            self.assertEqual(ask(code(1, lines, outs), run([3, 1])), [[2], [0, len(outs)] + values])


class Refused(unittest.TestCase):
    def refused(self, number, *asked):
        """The call is refused with the number, and what was held stays held."""
        before = code(2, [(0, 1), (1, 2, 3), (4, 0, 1)], [2, 2])
        kept = [run([7, 1, 5, 1]), back(0), ahead(1)]
        found = ask(before, *kept, code(*asked), *kept)
        self.assertEqual(found[4], [number], asked)
        self.assertEqual(found[5:], found[1:4], asked)
        self.assertEqual(found[1], [0, 2, 10, 3, 10, 3])
        # At the beginning nothing is held, and that stays so as well.
        self.assertEqual(ask(code(*asked), run([])), [[number], [0, 0]], asked)

    def test_n_out_of_range(self):
        for n in (-1, 13, -BIG, BIG):
            self.refused(-1, n, [(0, 0)], [0])

    def test_a_kind_that_there_is_not(self):
        for kind in (-1, 7, -BIG, BIG):
            self.refused(-2, 1, [0, 0, kind, 0, 0], [0])
            self.refused(-2, 1, [kind], [0])

    def test_numbers_that_are_missing(self):
        for whole in ([0, 0], [1, 1, 1], [2, 0, 0], [3, 0, 0], [4, 0, 0], [5, 0, 0], [6, 0]):
            for size in range(1, len(whole)):
                self.refused(-2, 1, [0, 0] + whole[:size], [0])
            self.assertEqual(last(code(1, [0, 0] + whole, [0])), [2])
            # One number more is a line of which the rest is missing.
            self.refused(-2, 1, [0, 0] + whole + [0], [0])

    def test_numbers_below_0(self):
        self.refused(-2, 1, [0, -1], [0])
        self.refused(-2, 1, [0, 0, 6, -1], [0])
        for kind in (2, 3, 4, 5):
            self.refused(-2, 1, [0, 0, kind, -1, 0], [0])
            self.refused(-2, 1, [0, 0, kind, 0, -1], [0])

    def test_denominators_below_1(self):
        for below in (0, -1, -BIG):
            self.refused(-2, 1, [1, 1, below], [0])

    def test_more_than_eighty_lines(self):
        self.refused(-7, 1, [(0, 0)] * 81, [0])
        self.refused(-7, 1, [(0, 0)] * 200, [0])

    def test_lines_that_are_not_earlier(self):
        self.refused(-3, 1, [0, 0, 6, 1], [0])
        self.refused(-3, 1, [0, 0, 6, BIG], [0])
        self.refused(-3, 1, [6, 0], [0])
        self.refused(-3, 1, [6, 1, 0, 0], [0])
        for kind in (2, 3, 4, 5):
            self.refused(-3, 1, [0, 0, kind, 0, 1], [0])
            self.refused(-3, 1, [0, 0, kind, 1, 0], [0])
            self.refused(-3, 1, [0, 0, kind, 2, 0, 0, 0], [0])

    def test_inputs_that_are_not_there(self):
        self.refused(-3, 0, [0, 0], [0])
        self.refused(-3, 1, [0, 1], [0])
        self.refused(-3, 12, [0, 12], [0])
        self.refused(-3, 12, [0, BIG], [0])

    def test_outs_that_are_none_or_more_than_six(self):
        self.refused(-2, 1, [0, 0], [])
        self.refused(-2, 1, [0, 0], [0] * 7)
        self.refused(-2, 1, [0, 0], [0] * 100)

    def test_outs_that_are_no_line(self):
        for out in (-1, 2, BIG, -BIG):
            self.refused(-2, 1, [0, 0, 6, 0], [out])
            self.refused(-2, 1, [0, 0, 6, 0], [0, 1, out])

    def test_an_empty_list_of_lines(self):
        for n in (0, 3, 12):
            for outs in ([], [0], [0, 0]):
                self.refused(-2, n, [], outs)


class OrderOfRefusals(unittest.TestCase):
    def refused(self, number, *asked):
        self.assertEqual(last(code(*asked)), [number], asked)

    def test_n_before_all(self):
        self.refused(-1, 13, [7], [])
        self.refused(-1, -1, [(0, 0)] * 81, [0])
        self.refused(-1, 13, [0, 13], [0])
        self.refused(-1, -1, [0, 0], [9])

    def test_the_form_of_lines_before_how_many(self):
        self.refused(-2, 1, [0, 0] * 81 + [7], [0])
        self.refused(-2, 1, [0, 0] * 81 + [6], [0])
        self.refused(-2, 1, [0, 0] * 81 + [1, 1, 0], [0])
        self.refused(-2, 1, [0, 0] * 81 + [6, -1], [0])

    def test_the_form_of_lines_before_what_they_use(self):
        self.refused(-2, 1, [0, 1, 7], [0])
        self.refused(-2, 1, [6, 5, 6, -1], [0])

    def test_how_many_before_what_they_use(self):
        self.refused(-7, 1, [0, 1] * 81, [0])
        self.refused(-7, 1, [6, 5] * 81, [0])

    def test_how_many_before_the_outs(self):
        self.refused(-7, 1, [0, 0] * 81, [])
        self.refused(-7, 1, [0, 0] * 81, [99])

    def test_what_they_use_before_the_outs(self):
        self.refused(-3, 1, [0, 1], [])
        self.refused(-3, 1, [0, 0, 6, 1], [0] * 7)
        self.refused(-3, 0, [6, 0], [-1])


if __name__ == "__main__":
    unittest.main()
