"""Promise 6: text."""

import unittest

from linecode.linekinds import Program
from linecode.refusals import TooLarge
from linecode.texts import text_of
from tests.asking import adopt, ask, change, code, gradient, held_lines, last, ops, run, shown, text

X, Y = (0, 0), (0, 1)
ONE = (1, 1, 1)
BIG = 10 ** 18
PRODUCT = code(2, [X, Y, (4, 0, 1), (2, 2, 0)], [3])


class Shown(unittest.TestCase):
    def shows(self, n, lines, outs, words):
        self.assertEqual(shown(last(code(n, lines, outs), text(0))), words)

    def test_byte_by_byte(self):
        self.assertEqual(last(code(1, [X], [0]), text(0)),
                         [16, 102, 110, 32, 103, 40, 120, 48, 41, 32, 61, 32, 91, 120, 48, 93, 59])

    def test_the_document_s_example(self):
        self.shows(2, [X, Y, (4, 0, 1), (2, 2, 0)], [3],
                   "fn g(x0, x1) = let t2 = x0 * x1 in let t3 = t2 + x0 in [t3];")

    def test_each_kind_of_operation(self):
        self.shows(2, [X, Y, (2, 1, 0)], [2], "fn g(x0, x1) = let t2 = x1 + x0 in [t2];")
        self.shows(2, [X, Y, (3, 1, 0)], [2], "fn g(x0, x1) = let t2 = x1 - x0 in [t2];")
        self.shows(2, [X, Y, (4, 1, 0)], [2], "fn g(x0, x1) = let t2 = x1 * x0 in [t2];")
        self.shows(2, [X, Y, (5, 1, 0)], [2], "fn g(x0, x1) = let t2 = x1 / x0 in [t2];")
        self.shows(2, [X, Y, (6, 1)], [2], "fn g(x0, x1) = let t2 = -x1 in [t2];")

    def test_operations_of_operations(self):
        self.shows(1, [X, (4, 0, 0), (3, 1, 0), (6, 2), (6, 3), (5, 4, 1), (2, 5, 5)], [6, 3],
                   "fn g(x0) = let t1 = x0 * x0 in let t2 = t1 - x0 in let t3 = -t2 in let t4 = -t3 in "
                   "let t5 = t4 / t1 in let t6 = t5 + t5 in [t6, t3];")

    def test_inputs(self):
        self.shows(3, [Y], [0], "fn g(x0, x1, x2) = [x1];")
        # Lines are named by the input's number, not by their own.
        self.shows(2, [ONE, Y, X, Y, (4, 2, 3)], [4, 1], "fn g(x0, x1) = let t4 = x0 * x1 in [t4, x1];")
        self.shows(12, [(0, 11)], [0], "fn g(x0, x1, x2, x3, x4, x5, x6, x7, x8, x9, x10, x11) = [x11];")

    def test_no_inputs(self):
        self.shows(0, [(1, 2, 1), (6, 0)], [1], "fn g() = let t1 = -2 in [t1];")
        self.shows(0, [(1, 2, 1)], [0], "fn g() = [2];")

    def test_constants(self):
        for line, name in (((1, 0, 1), "0"), ((1, 0, 5), "0"), ((1, 7, 1), "7"), ((1, 14, 2), "7"),
                           ((1, 120, 1), "120"), ((1, -1, 1), "(-1)"), ((1, -6, 2), "(-3)"),
                           ((1, 3, 4), "(3 / 4)"), ((1, 6, 8), "(3 / 4)"), ((1, -3, 4), "(-3 / 4)"),
                           ((1, -1, 2), "(-1 / 2)"), ((1, 1, 20), "(1 / 20)")):
            self.shows(0, [line], [0], "fn g() = [" + name + "];")
            self.shows(1, [line, X, (2, 0, 1), (3, 1, 0), (6, 0)], [0],
                       f"fn g(x0) = let t2 = {name} + x0 in let t3 = x0 - {name} in let t4 = -{name} in [{name}];")
            self.shows(0, [line, (4, 0, 0), (5, 0, 1)], [2],
                       f"fn g() = let t1 = {name} * {name} in let t2 = {name} / t1 in [t2];")

    def test_outs(self):
        lines = [X, (1, -1, 2), (6, 0), (1, 3, 1)]
        self.shows(1, lines, [0], "fn g(x0) = let t2 = -x0 in [x0];")
        self.shows(1, lines, [3, 2, 0, 1, 2, 2], "fn g(x0) = let t2 = -x0 in [3, t2, x0, (-1 / 2), t2, t2];")

    def test_lines_that_nothing_hangs_on_are_shown_of_the_held_program(self):
        self.shows(1, [X, (6, 0), ONE, (2, 0, 0)], [0], "fn g(x0) = let t1 = -x0 in let t3 = x0 + x0 in [x0];")

    def test_numbers_of_two_digits(self):
        lines = [X] + [(6, k) for k in range(11)]
        lets = ["let t1 = -x0 in "] + [f"let t{k} = -t{k - 1} in " for k in range(2, 12)]
        self.shows(1, lines, [11, 10], "fn g(x0) = " + "".join(lets) + "[t11, t10];")


class Derivatives(unittest.TestCase):
    def test_of_the_backward_program(self):
        self.assertEqual(shown(last(PRODUCT, text(1))),
                         "fn g(x0, x1, x2) = let t3 = x2 * x1 in let t4 = x2 + t3 in let t5 = x2 * x0 in "
                         "[t4, t5];")

    def test_of_the_forward_program(self):
        self.assertEqual(shown(last(PRODUCT, text(2))),
                         "fn g(x0, x1, x2, x3) = let t4 = x2 * x1 in let t5 = x0 * x3 in "
                         "let t6 = t4 + t5 in let t7 = t6 + x2 in [t7];")

    def test_outs_that_are_inputs_and_constants(self):
        held = code(3, [X, (1, 7, 1), (0, 2), (3, 0, 2)], [3, 1])
        self.assertEqual(shown(last(held, text(1))),
                         "fn g(x0, x1, x2, x3, x4) = let t1 = -x3 in [x3, 0, t1];")
        self.assertEqual(shown(last(held, text(2))),
                         "fn g(x0, x1, x2, x3, x4, x5) = let t2 = x3 - x5 in [t2, 0];")

    def test_constants_in_them(self):
        held = code(1, [(1, -4, 6), X, (5, 0, 1)], [2])
        self.assertEqual(shown(last(held, text(1))),
                         "fn g(x0, x1) = let t2 = (-2 / 3) / x0 in let t4 = x1 / x0 in let t5 = t4 * t2 in "
                         "let t6 = -t5 in [t6];")
        self.assertEqual(shown(last(held, text(2))),
                         "fn g(x0, x1) = let t2 = (-2 / 3) / x0 in let t4 = t2 * x1 in let t5 = t4 / x0 in "
                         "let t6 = -t5 in [t6];")

    def test_no_inputs(self):
        held = code(0, [(1, 5, 1), (6, 0)], [1, 0])
        self.assertEqual(ask(held, text(0), text(1), text(2))[2], [-7])
        self.assertEqual(shown(last(held, text(2))), "fn g() = [0, 0];")

    def test_of_an_adopted_program(self):
        for which in (0, 1):
            found = ask(PRODUCT, text(which + 1), adopt(which, 1), text(0), text(1), text(2), adopt(0, 1), text(0))
            self.assertEqual(found[1], found[3])
            self.assertEqual(found[4], found[7])
            self.assertEqual(len({tuple(answer) for answer in found[3:6]}), 3)

    def test_of_a_program_adopted_whole(self):
        found = ask(code(1, [X, (4, 0, 0)], [1]), adopt(0, 0), text(0), adopt(1, 0), text(0))
        first = ("let t1 = x0 * x0 in let t3 = x1 * x0 in let t4 = x1 * x0 in let t5 = t3 + t4 in ")
        self.assertEqual(shown(found[2]), "fn g(x0, x1) = " + first + "[t5];")
        changes = ("let t7 = x2 * x0 in let t8 = x0 * x2 in let t9 = t7 + t8 in "
                   "let t11 = x3 * x0 in let t12 = x1 * x2 in let t13 = t11 + t12 in "
                   "let t14 = x3 * x0 in let t15 = x1 * x2 in let t16 = t14 + t15 in let t17 = t13 + t16 in ")
        self.assertEqual(shown(found[4]), "fn g(x0, x1, x2, x3) = " + first + changes + "[t17];")


class OutOfRange(unittest.TestCase):
    def test_which(self):
        for which in (-1, 3, 4, BIG, -BIG):
            found = ask(text(which), PRODUCT, held_lines(), text(which), held_lines())
            self.assertEqual(found[0], [-1])
            self.assertEqual(found[3], [-1])
            self.assertEqual(found[2], found[4])

    def test_before_what_can_t_be_told(self):
        self.assertEqual(ask(text(0), text(3), text(-1)), [[-7], [-1], [-1]])


class CanBeTold(unittest.TestCase):
    """Which programs can be told as text, at the edges."""

    def are(self, expected, *asked):
        """Whether it's told of which 0, 1 and 2, behind the calls."""
        found = ask(*asked, held_lines(), text(0), text(1), text(2), held_lines())
        self.assertEqual(found[-5], found[-1])
        for answer in found[-4:-1]:
            self.assertTrue(answer == [-7] or shown(answer).startswith("fn g("), answer)
        self.assertEqual([answer != [-7] for answer in found[-4:-1]], expected)

    def test_inputs(self):
        self.are([True, False, False], code(12, [X], [0]))
        self.are([True, True, False], code(11, [X], [0]))
        self.are([True, False, False], code(11, [X], [0, 0]))
        self.are([True, True, True], code(6, [X], [0] * 6))
        self.are([True, False, False], code(7, [X], [0] * 6))
        self.are([True, True, False], code(7, [X], [0] * 5))

    def test_inputs_of_an_adopted_program(self):
        twelve = ask(code(11, [X], [0]), adopt(0, 1), text(0))
        self.assertEqual(twelve[1], [12, 11, 11])
        self.assertTrue(shown(twelve[2]).startswith("fn g(x0, x1, x2, x3, x4, x5, x6, x7, x8, x9, x10, x11) = "))
        self.assertEqual(ask(code(11, [X], [0, 0]), adopt(0, 1), text(0))[1:], [[13, 13, 11], [-7]])
        self.are([True, False, False], code(6, [X], [0]), adopt(1, 1))
        self.are([False, False, False], code(7, [X], [0]), adopt(1, 1))

    def test_no_outs(self):
        self.are([False, False, False])
        self.are([True, False, True], code(0, [ONE], [0]))
        # Without inputs and outs, and with inputs but no outs: of these the backward program has outs.
        self.are([False, False, False], adopt(0, 1))
        self.are([False, True, False], code(0, [ONE], [0]), adopt(0, 1))

    def test_one_out(self):
        self.are([True, True, True], code(1, [ONE], [0]))

    def test_twelve_outs(self):
        # Backwards 6 inputs and no outs, forwards 12 inputs, backwards as many outs.
        none = [code(0, [ONE], [0] * 6), adopt(0, 1), adopt(1, 1)]
        self.are([False, True, False], *none)
        found = ask(*none, text(1), adopt(0, 1), text(0))
        names = ", ".join([f"x{k}" for k in range(12)])
        self.assertEqual(found[2:5:2], [[12, 0, 0], [12, 12, 12]])
        self.assertEqual(shown(found[3]), "fn g(" + names + ") = [" + ", ".join(["0"] * 12) + "];")
        self.assertEqual(found[3], found[5])

    def test_thirteen_outs(self):
        found = ask(code(12, [X], [0]), adopt(0, 1), text(0), text(1))
        self.assertEqual(found[1:], [[13, 12, 12], [-7], [-7]])
        # With 13 outs the calls bring more than 12 inputs along; so it's asked without them, too.
        self.assertEqual(text_of(Program(1, [X], [0] * 12)), "fn g(x0) = [" + ", ".join(["x0"] * 12) + "];")
        self.assertRaises(TooLarge, text_of, Program(1, [X], [0] * 13))
        self.assertRaises(TooLarge, text_of, Program(1, [X], []))
        self.assertRaises(TooLarge, text_of, Program(13, [X], [0]))

    def test_operations_of_the_held_program(self):
        lines = [X] + [(6, k) for k in range(37)]
        self.are([True, True, True], code(1, lines[:-1], [36]))
        self.are([False, False, False], code(1, lines, [37]))
        # All of the held program count, but of a trimmed one only what is needed.
        self.are([False, True, True], code(1, lines, [36]))
        self.are([False, True, True], code(1, lines, [0]))
        for kind in (2, 3, 4, 5):
            lines = [ONE] + [(kind, 0, 0)] * 37
            self.are([True, False, True], code(0, lines[:-1], [0]))
            self.are([False, False, True], code(0, lines, [0]))

    def test_lines_that_are_no_operations_don_t_count(self):
        lines = [X, ONE] * 22 + [(6, k + 43) for k in range(36)]
        self.are([True, True, True], code(1, lines, [79]))

    def test_operations_of_the_made_programs(self):
        # Squares whose derivatives have 35 operations each, and opposites with one more each.
        squares = [X] + [(4, k, k) for k in range(9)]
        for more, told in ((0, True), (1, True), (2, False)):
            lines = squares + [(6, 9 + k) for k in range(more)]
            held = code(1, lines, [len(lines) - 1])
            self.assertEqual(last(held, ops())[2::2], [35 + more, 35 + more])
            self.are([True, told, told], held)
            # Adopted, the one that was made is the one that's told.
            for which in (0, 1):
                self.assertEqual(last(held, adopt(which, 1), text(0)) != [-7], told)

    def test_constants_of_the_held_program(self):
        for fraction, told in (((BIG - 1, 1), True), ((BIG, 1), False), ((1 - BIG, 1), True), ((-BIG, 1), False),
                               ((1, BIG - 1), True), ((1, BIG), False), ((-1, BIG - 1), True), ((-1, BIG), False),
                               ((BIG, 3), False), ((3, BIG), False), ((BIG - 1, BIG), False),
                               ((BIG, BIG - 1), False), ((0, BIG), True)):
            constant = (1,) + fraction
            # x + c: its derivatives have no c in them; nor is c needed when x alone is the out.
            self.are([told, True, True], code(1, [X, constant, (2, 0, 1)], [2]))
            self.are([told, True, True], code(1, [X, constant], [0]))
            # x c: the same c is in its derivatives.
            self.are([told, told, told], code(1, [X, constant, (4, 0, 1)], [2]))

    def test_constants_are_looked_at_in_lowest_terms(self):
        for fraction, name in (((BIG, BIG), "1"), ((-BIG, BIG), "(-1)"), ((BIG, 2), "500000000000000000"),
                               ((2, BIG), "(1 / 500000000000000000)"),
                               ((-BIG, 16), "(-62500000000000000)")):
            self.assertEqual(shown(last(code(0, [(1,) + fraction], [0]), text())), "fn g() = [" + name + "];")

    def test_constants_just_below_are_written_whole(self):
        nines = "9" * 18
        for fraction, name in (((BIG - 1, 1), nines), ((1 - BIG, 1), "(-" + nines + ")"),
                               ((1, BIG - 1), "(1 / " + nines + ")"),
                               ((2 - BIG, BIG - 1), "(-" + nines[:-1] + "8 / " + nines + ")")):
            held = code(1, [X, (1,) + fraction, (4, 0, 1)], [1])
            self.assertEqual(shown(last(held, text())), "fn g(x0) = let t2 = x0 * " + name + " in [" + name + "];")

    def test_constants_of_an_adopted_program(self):
        for number, told in ((BIG - 1, True), (BIG, False)):
            for which in (0, 1):
                times = code(1, [X, (1, number, 1), (4, 0, 1)], [2])
                plus = code(1, [X, (1, number, 1), (2, 0, 1)], [2])
                self.are([told, told, told], times, adopt(which, 1))
                self.are([told, True, True], plus, adopt(which, 0))
                self.are([True, True, True], plus, adopt(which, 1))


class Unchanged(unittest.TestCase):
    def test_the_held_program_stays(self):
        asked = [held_lines(), ops(), run([2, 1, 3, 1]), gradient([2, 1, 3, 1], [1, 1]),
                 change([2, 1, 3, 1], [1, 1, 1, 1])]
        found = ask(PRODUCT, *asked, text(0), text(1), text(2), *asked)
        self.assertEqual(found[1:6], found[9:])


if __name__ == "__main__":
    unittest.main()
