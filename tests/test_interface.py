"""The interface: how calls are handed in and answers given back."""

import unittest

import linecode.programs
from linecode.programs import answers
from tests.asking import (
    adopt, ahead, ask, back, change, code, gradient, held_lines, needed, ops, run, text,
)

SQUARE = code(1, [(0, 0), (4, 0, 0)], [1])


def joined(*calls):
    return [number for call in calls for number in call]


class Form(unittest.TestCase):
    def test_answers_are_told_with_how_many_numbers_they_have(self):
        calls = [0, 1, 5, 0, 0, 4, 0, 0, 1, 1, 4, 2, 3, 2, 1, 1, 3, 0, 1, 1, 2]
        given = [1, 2, 4, 0, 1, 9, 4]
        given += [16, 13, 0, 0, 0, 1, 4, 1, 0, 4, 1, 0, 2, 2, 3, 1, 4]
        given += [3, 2, 5, 1, 1, -1]
        self.assertEqual(answers(calls), given)

    def test_every_number_of_a_call(self):
        given = answers(joined([1, 0], [2, 0], [3, 0, 0], [4, 0], [5, 0, 0], [6, 0, 0], [7], [8, 0], [9], [10],
                               [0, 0, 3, 1, 1, 1, 1, 0]))
        self.assertEqual(given, [2, 0, 0, 2, 0, 0, 3, 0, 0, 0, 2, 0, 0, 2, 0, 0,
                                 2, 0, 0, 5, 0, 0, 0, 0, 0, 1, -7, 3, 0, 0, 0, 1, 0, 1, 1])

    def test_counts_ahead_of_what_is_told(self):
        calls = [0, 1, 5, 0, 0, 4, 0, 0, 1, 1, 6, 2, 3, 2, 2, 1, 1, 7, 8, 0, 9, 10]
        words = list(b"fn g(x0) = let t1 = x0 * x0 in [t1];")
        given = [1, 2, 4, 0, 1, 3, 1, 5, 1, 4, 3, 4, 3]
        given += [len(words) + 1, len(words)] + words
        given += [9, 1, 5, 0, 0, 4, 0, 0, 1, 1, 3, 2, 0, 1]
        self.assertEqual(answers(calls), given)

    def test_a_fault_has_three_numbers(self):
        given = answers(joined(code(1, [(0, 0), (5, 0, 0)], [1]), run([0, 1])))
        self.assertEqual(given, [1, 2, 3, 1, 1, 1])

    def test_a_refusal_is_one_number_and_the_calls_go_on(self):
        given = answers(joined(code(13, [7], []), code(1, [7], [0]), code(1, [(0, 0)] * 81, [0]),
                               code(0, [(0, 0)], [0]), back(2), ahead(2), adopt(2, 2), run([1]),
                               gradient([1], [1, 1, 1]), change([1], [1, 1]), text(3), SQUARE))
        self.assertEqual(given, [1, -1, 1, -2, 1, -7, 1, -3, 1, -1, 1, -1, 1, -1, 1, -2, 1, -2, 1, -2, 1, -1,
                                 1, 2])

    def test_rows_that_look_like_calls(self):
        given = ask([0, 1, 4, 0, 1, 6, 0, 0], run([]), [4, 4, 4, 4, 4, 4], SQUARE, run([4, 4]))
        self.assertEqual(given, [[-3], [0, 0], [-2], [2], [0, 1, 1, 1]])

    def test_all_are_plain_whole_numbers_in_a_plain_list(self):
        calls = joined(SQUARE, back(0), ahead(1), run([3, 1]), gradient([3, 1], [1, 2]), change([3, 1], [1, 2]),
                       ops(), text(0), text(3), held_lines(), needed(), adopt(0, 1),
                       run([1, 0, 1, 1]), code(1, [(0, 0), (5, 0, 0)], [1]), run([0, 1]), back(3))
        given = answers(calls)
        self.assertIs(type(given), list)
        for number in given:
            self.assertIs(type(number), int)

    def test_seventy_calls_and_long_lists(self):
        lines = [(0, 0)] + [(4, k, 0) for k in range(79)]
        held = code(1, lines, [79] * 6)
        given = ask(held, adopt(0, 0), *[back(0), ahead(0)] * 34)
        self.assertEqual(len(given), 70)
        self.assertEqual(given[2:4] * 34, given[2:])
        self.assertEqual(len(ask(*[code(12, [1, 1, 1] * 133, [0] * 100)] * 30)), 30)

    def test_a_long_chain_is_no_deep_call(self):
        # A forward program of nearly 600 lines, in which each hangs on the one before.
        lines = [(0, 0)] + [(6, k) for k in range(79)]
        found = ask(code(1, lines, [79]), adopt(1, 0), adopt(1, 0), back(1), gradient([2, 1] * 4, [3, 1]))
        self.assertEqual(found[2], [4, 320, 1])
        self.assertEqual(found[4], [0, 4, 0, 1, 0, 1, 0, 1, -3, 1])


class Kept(unittest.TestCase):
    def test_the_list_handed_in_stays_as_it_was(self):
        calls = joined(code(2, [(0, 0), (0, 1), (1, 4, 6), (5, 0, 1)], [3, 3]), back(0), back(1), ahead(0),
                       run([6, 4, 2, 6]), gradient([6, 4, 2, 6], [2, 4, 3, 9]),
                       change([6, 4, 2, 6], [2, 4, 3, 9]), ops(), text(0), text(1), text(2), held_lines(), needed(),
                       adopt(0, 1), adopt(1, 0), run([2, 2] * 8), code(1, [7], [0]), run([1, 0]),
                       change([2, 2] * 8, [1, 0]), text(0), text(-1), ops(), held_lines(), needed())
        before = list(calls)
        answers(calls)
        self.assertEqual(calls, before)

    def test_not_for_a_while_either(self):
        class Watched(list):
            """A list that can't be changed."""

            def refuse(self, *args, **kwargs):
                raise AssertionError("the list handed in is changed")

            __setitem__ = __delitem__ = __iadd__ = __imul__ = refuse
            append = extend = insert = pop = remove = clear = sort = reverse = refuse

        calls = joined(SQUARE, back(0), ahead(1), adopt(0, 0), run([6, 4, 1, 2]), gradient([6, 4, 1, 2], [1, 1]),
                       change([6, 4, 1, 2], [1, 1, 2, 4]), ops(), text(0), text(2), held_lines(), needed())
        self.assertEqual(answers(Watched(calls)), answers(list(calls)))

    def test_what_is_given_back_is_new_each_time(self):
        calls = joined(SQUARE, back(0))
        given = answers(calls)
        kept = list(given)
        given.clear()
        self.assertEqual(answers(calls), kept)

    def test_one_time_knows_nothing_of_another(self):
        self.assertEqual(answers(joined(SQUARE, adopt(0, 1))), [1, 2, 3, 2, 5, 1])
        self.assertEqual(answers(joined(run([]), back(0), run([1, 1]))), [2, 0, 0, 2, 0, 0, 1, -2])
        self.assertEqual(answers(joined(run([3, 1]), SQUARE, run([3, 1]))), [1, -2, 1, 2, 4, 0, 1, 9, 1])
        self.assertEqual(answers(run([3, 1])), [1, -2])
        self.assertEqual(answers(joined(SQUARE, held_lines())), [1, 2, 9, 1, 5, 0, 0, 4, 0, 0, 1, 1])
        self.assertEqual(answers(joined(held_lines(), needed(), ops(), text(0), change([], []))),
                         [3, 0, 0, 0, 1, 0, 5, 0, 0, 0, 0, 0, 1, -7, 2, 0, 0])
        self.assertEqual(answers(joined(change([3, 1], [1, 1]))), [1, -2])

    def test_one_object_in_one_list(self):
        found = ask(run([]), SQUARE, run([3, 1]), adopt(0, 1), run([3, 1, 1, 1]), code(0, [], [0]),
                    run([3, 1, 1, 1]), code(0, [(1, 1, 2)], [0]), run([]), run([3, 1, 1, 1]))
        self.assertEqual(found, [[0, 0], [2], [0, 1, 9, 1], [2, 5, 1], [0, 1, 6, 1], [-2],
                                 [0, 1, 6, 1], [1], [0, 1, 1, 2], [-2]])

    def test_the_same_calls_answer_the_same(self):
        calls = joined(SQUARE, adopt(1, 1), back(1), gradient([3, 1, 2, 5], [1, 3]), ops(), text(1), needed(),
                       change([3, 1, 2, 5], [1, 3, 1, 1]), adopt(0, 0), ahead(0), held_lines())
        self.assertEqual(answers(calls), answers(calls))


class Names(unittest.TestCase):
    def test_the_function_is_written_where_its_name_tells(self):
        self.assertEqual(linecode.programs.answers.__module__, "linecode.programs")


if __name__ == "__main__":
    unittest.main()
