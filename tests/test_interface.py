"""The interface: how calls are written, how answers are given back, and that nothing is changed or kept."""

import unittest

from tests.helper import (A, X, Y, Z, ask, back, cut, differ, mark, new, relation, same, sym, told, value, var, waiting,
                          when_bound, when_sure, when_whole)
from termsthatwait.store import answers

LINE = (new(3) + same(sym(7, X, A), sym(7, Y, A)) + when_bound(4, Z) + when_whole(5, X) + when_sure(6, X, Z)
        + differ(X, Z) + same(Z, A) + value(sym(7, Y, Z)) + new(0) + same(X, A) + mark() + relation(Y, A)
        + told(1, 2) + waiting() + same(X, sym(3, A)) + mark() + waiting() + back(1) + cut(1) + back(1)
        + same(X, sym(3, A)))


class Interface(unittest.TestCase):

    def test_written_out_by_hand(self):
        # new 2; same 0, 7(1); when_bound 44 of 1; differ 1, 5; same 1, 6; value 0; value 2.
        calls = [0, 2, 1, 2, 0, 0, 4, 2, 7, 0, 1, 3, 44, 2, 0, 1, 2, 2, 0, 1, 2, 1, 5,
                 1, 2, 0, 1, 2, 1, 6, 6, 2, 0, 0, 6, 2, 0, 2]
        self.assertEqual(answers(calls), [1, 0, 1, 1, 1, 0, 1, 1, 2, 1, 44, 5, 0, 2, 7, 1, 6, 1, -2])

    def test_when_whole_and_when_sure_written_out_by_hand(self):
        calls = [0, 1, 4, 9999, 2, 0, 0, 5, 0, 2, 0, 0, 2, 1, 0, 1, 2, 1, 0, 2, 0, 0]
        self.assertEqual(answers(calls), [1, 0, 1, 0, 1, 0, 3, 1, 9999, 0])

    def test_the_later_calls_written_out_by_hand(self):
        # new 3; differ 2, 7(0); mark; relation 2, 7(0); told 2 0 2; told of none; waiting.
        calls = [0, 3, 2, 2, 0, 2, 4, 2, 7, 0, 0, 10, 7, 2, 0, 2, 4, 2, 7, 0, 0, 8, 3, 2, 0, 2, 8, 0, 9]
        self.assertEqual(answers(calls), [1, 0, 1, 1, 1, 1, 1, 2, 14, 0, 0, 0, 0, 1, 0, 0, 1, 1, 0, 2, 7, 0, 1,
                                          2, 0, 0, 1, 0])
        # mark; new 1; when_sure 88 of 0, 5; waiting; back 1; waiting; back 2; cut 1; cut 1.
        calls = [10, 0, 1, 5, 88, 2, 0, 0, 2, 1, 5, 9, 11, 1, 9, 11, 2, 12, 1, 12, 1]
        self.assertEqual(answers(calls), [1, 1, 1, 0, 1, 0, 3, 1, 88, 2, 1, 0, 1, 0, 1, -2, 1, 0, 1, -2])

    def test_one_call_alone(self):
        self.assertEqual(answers([0, 20]), [1, 0])
        self.assertEqual(answers([0, 0]), [1, -1])
        self.assertEqual(answers([8, 0]), [2, 0, 0])
        self.assertEqual(answers([9]), [1, 0])
        self.assertEqual(answers([10]), [1, 1])
        self.assertEqual(answers([11, 1]), [1, -2])
        self.assertEqual(answers([12, 1000]), [1, -2])

    def test_a_whole_line(self):
        self.assertEqual(answers(list(LINE)), [1, 0, 1, 1, 1, 0, 1, 0, 1, 0, 2, 1, 6, 2, 1, 4,
                                               7, 0, 3, 7, 0, 0, 1, 1, 1, -1, 1, 0, 1, 1, 1, 2,
                                               10, 0, 0, 0, 1, 1, 1, 1, 0, 1, 1, 3, 1, 5, 1, 2, 1, 5, 1, 2, 1, 0,
                                               1, 3, 1, 0, 1, -2, 2, 1, 5])

    def test_what_is_handed_in_is_as_it_was(self):
        calls = list(LINE)
        answers(calls)
        self.assertEqual(calls, LINE)

    def test_what_is_handed_in_is_not_changed_for_a_while_either(self):
        class Watched(list):
            def refuse(self, *given):
                raise AssertionError("the list is changed")

            __setitem__ = __delitem__ = __iadd__ = append = extend = insert = refuse
            pop = remove = clear = reverse = sort = refuse

        self.assertEqual(answers(Watched(LINE)), answers(list(LINE)))

    def test_a_second_time_answers_the_same(self):
        first = answers(list(LINE))
        answers(new(20) + new(20) + same(X, A) + differ(Y, A) + mark() + when_bound(3, Z))
        self.assertEqual(answers(list(LINE)), first)

    def test_what_is_given_back_is_not_kept(self):
        first = answers(list(LINE))
        wanted = list(first)
        first.clear()
        self.assertEqual(answers(list(LINE)), wanted)

    def test_whole_numbers_alone(self):
        given = answers(list(LINE))
        self.assertIs(type(given), list)
        self.assertEqual({type(number) for number in given}, {int})

    def test_60_calls(self):
        given = ask(new(1), *[same(X, sym(1, X)) for turn in range(58)], value(X))
        self.assertEqual(given, [[0]] + [[0]] * 58 + [[0] + X])

    def test_60_calls_as_long_as_they_can_be(self):
        # 4 calls make variables, each of the 56 others hands over two terms of 80 numbers.
        line = new(20) * 4
        for number in range(56):
            one = [2, 1] * 39 + var(number)
            line = line + [1 + number % 2, 80] + one + [80] + [2, 1] * 39 + var(number + 20)
        given = answers(line)
        self.assertEqual(given, [1, 0, 1, 20, 1, 40, 1, 60] + [1, 1] * 56)


if __name__ == "__main__":
    unittest.main()
