"""Point 5: value."""

import unittest

from tests.helper import A, B, W, X, Y, Z, ask, chain, differ, last, new, same, sym, value, var


def fives(times, end):
    return sym(5, *[end] * times)


class Value(unittest.TestCase):

    def test_a_term_of_free_variables_is_its_own(self):
        self.assertEqual(ask(new(3), value(sym(7, Z, sym(5), X))), [[0], [0] + sym(7, Z, sym(5), X)])

    def test_the_least_variable_of_those_that_are_the_same(self):
        self.assertEqual(ask(new(4), same(W, Z), value(W), same(Z, Y), value(sym(1, W, Z, Y, X))),
                         [[0], [1], [0] + Z, [1], [0] + sym(1, Y, Y, Y, X)])

    def test_the_least_variable_whichever_side_it_stands_on(self):
        self.assertEqual(last(new(4), same(X, Y), same(W, Z), same(Z, Y), value(sym(1, X, Y, Z, W))),
                         [0] + sym(1, X, X, X, X))

    def test_the_least_variable_by_terms_that_are_the_same(self):
        self.assertEqual(last(new(4), same(X, sym(3, W)), same(X, sym(3, Y)), value(X)), [0] + sym(3, Y))

    def test_a_bound_variable_with_the_values_of_its_arguments(self):
        self.assertEqual(last(new(4), same(X, sym(3, Y, Z)), same(Y, sym(4, W)), same(Z, W), value(sym(9, X))),
                         [0] + sym(9, sym(3, sym(4, Z), Z)))

    def test_differences_leave_values_as_they_are(self):
        self.assertEqual(last(new(2), differ(X, Y), differ(X, A), value(sym(1, X, Y))), [0] + sym(1, X, Y))

    def test_the_example_row(self):
        self.assertEqual(last(new(3), value([3, 7, 0, 2, 1, 5])), [0, 3, 7, 0, 2, 1, 5])

    def test_a_size_of_500_is_answered_and_501_is_refused(self):
        # Y has size 31, so a symbol around sixteen of it has 497, around it some more.
        built = [new(3), same(Y, chain(6, 30, Z)), same(X, sym(8, *[sym(5, Y, Y, Y, Y)] * 4))]
        size = 1 + 4 + 16 * 31
        self.assertEqual(size, 501)
        self.assertEqual(last(*built, value(X)), [-5])
        smaller = [new(3), same(Y, chain(6, 30, Z)),
                   same(X, sym(8, *[sym(5, Y, Y, Y, Y)] * 3, sym(5, Y, Y, Y, chain(6, 29, Z))))]
        answer = last(*smaller, value(X))
        self.assertEqual(len(answer), 1 + 2 * 500)
        self.assertEqual(answer[0], 0)
        self.assertEqual(last(*smaller, value(sym(1, X))), [-5])

    def test_variables_count_for_the_size(self):
        built = [new(2), same(X, fives(4, fives(4, Y))), same(Y, fives(4, fives(4, fives(2, B))))]
        size = 1 + 4 + 16 * (1 + 4 + 16 * 3)
        self.assertGreater(size, 500)
        self.assertEqual(last(*built, value(X)), [-5])
        self.assertEqual(len(last(*built, value(sym(1, Y, Y)))), 1 + 2 * (1 + 2 * 53))

    def test_all_is_as_it_was_after_a_refusal(self):
        long = [same(var(n), chain(1, 39, var(n + 1))) for n in range(15)]
        self.assertEqual(ask(new(20), *long, value(X), value(var(15)), same(var(15), A), value(var(14)))[-4:],
                         [[-5], [0, 0, 15], [1], [0] + chain(1, 39, A)])

    def test_a_missing_variable_goes_ahead_of_the_size(self):
        long = [same(var(n), chain(1, 39, var(n + 1))) for n in range(15)]
        self.assertEqual(last(new(20), *long, value(sym(1, X, var(20)))), [-2])


if __name__ == "__main__":
    unittest.main()
