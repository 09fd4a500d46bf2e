"""Point 2: same; and what is told of terms, symbols and ways ahead of it."""

import unittest

from tests.helper import A, B, W, X, Y, Z, ask, differ, last, new, same, sym, value, var, when_bound, when_sure


class Same(unittest.TestCase):

    def test_a_variable_and_a_symbol(self):
        self.assertEqual(ask(new(1), same(X, A), value(X)), [[0], [1], [0] + A])

    def test_symbols_that_differ(self):
        self.assertEqual(ask(same(A, A), same(A, B), same(sym(0), sym(999))), [[1], [0], [0]])

    def test_one_symbol_with_other_numbers_of_arguments(self):
        self.assertEqual(ask(new(2), same(sym(7, X), sym(7, X, Y)), same(sym(7), sym(7, X)),
                             same(sym(7, X, X, X), sym(7, X, X, X, X))), [[0], [0], [0], [0]])

    def test_arguments_become_the_same(self):
        self.assertEqual(ask(new(4), same(sym(3, X, sym(4, Y)), sym(3, A, Z)), same(Y, B), value(Z), value(X)),
                         [[0], [1], [1], [0] + sym(4, B), [0] + A])

    def test_four_arguments_in_their_order(self):
        self.assertEqual(last(new(4), same(sym(9, X, Y, Z, W), sym(9, A, B, sym(3), sym(4))), value(sym(8, W, Z, Y, X))),
                         [0] + sym(8, sym(4), sym(3), B, A))

    def test_it_follows_over_several_steps(self):
        self.assertEqual(ask(new(4), same(X, Y), same(Z, W), same(Y, Z), same(W, A), value(X), same(X, B)),
                         [[0], [1], [1], [1], [1], [0] + A, [0]])

    def test_two_bound_variables_make_their_arguments_the_same(self):
        self.assertEqual(ask(new(4), same(X, sym(5, Z)), same(Y, sym(5, W)), same(X, Y), value(W)),
                         [[0], [1], [1], [1], [0, 0, 2]])

    def test_nothing_is_told_where_it_answers_0(self):
        self.assertEqual(ask(new(2), same(sym(3, X, Y, A), sym(3, A, B, B)), value(sym(3, X, Y)), same(X, B)),
                         [[0], [0], [0] + sym(3, X, Y), [1]])

    def test_the_same_again(self):
        self.assertEqual(ask(new(1), same(X, X), same(X, A), same(X, A), same(A, X)), [[0], [1], [1], [1], [1]])

    def test_no_variable_is_a_part_of_itself(self):
        self.assertEqual(ask(new(1), same(X, sym(1, X)), value(X), same(X, A)), [[0], [0], [0] + X, [1]])

    def test_no_variable_is_a_part_of_itself_over_others(self):
        self.assertEqual(ask(new(3), same(X, sym(1, Y)), same(Y, sym(1, A, Z)), same(Z, sym(2, B, X)), value(Z),
                             same(Z, B)), [[0], [1], [1], [0], [0] + Z, [1]])

    def test_no_part_of_itself_by_two_arguments(self):
        self.assertEqual(ask(new(2), same(sym(1, X, Y), sym(1, sym(2, Y), sym(2, X))), value(sym(1, X, Y))),
                         [[0], [0], [0] + sym(1, X, Y)])

    def test_no_part_of_itself_by_variables_that_become_the_same(self):
        self.assertEqual(ask(new(2), same(X, sym(1, Y)), same(X, Y), value(Y)), [[0], [1], [0], [0] + Y])

    def test_one_variable_several_times_is_no_part_of_itself(self):
        self.assertEqual(last(new(2), same(sym(1, X, X), sym(1, sym(2, Y, Y), sym(2, Y, Y))), value(X)),
                         [0] + sym(2, Y, Y))

    def test_what_is_told_different_stays_different(self):
        self.assertEqual(ask(new(2), differ(X, A), same(X, A), value(X), same(X, B)),
                         [[0], [1], [0], [0] + X, [1]])

    def test_different_variables_stay_different(self):
        self.assertEqual(ask(new(3), differ(X, Y), same(X, Z), same(Z, Y), value(Y), same(Y, A), same(Z, A), same(Z, B)),
                         [[0], [1], [1], [0], [0] + Y, [1], [0], [1]])

    def test_a_difference_of_several_arguments_leaves_all_but_one(self):
        self.assertEqual(ask(new(3), differ(sym(3, X, Y, Z), sym(3, A, A, A)), same(X, A), same(Z, A), same(Y, A),
                             same(Y, B)), [[0], [1], [1], [1], [0], [1]])

    def test_two_differences_that_are_broken_at_once(self):
        self.assertEqual(ask(new(2), differ(X, Y), differ(Y, A), same(sym(3, X, Y), sym(3, A, A)), same(X, A)),
                         [[0], [1], [1], [0], [1]])

    def test_a_difference_between_terms_written_anew(self):
        self.assertEqual(ask(new(2), differ(X, Y), same(X, sym(4, sym(5, A))), same(Y, sym(4, sym(5, A))),
                             same(Y, sym(4, sym(5, B)))), [[0], [1], [1], [0], [1]])

    def test_a_variable_that_is_not_there(self):
        self.assertEqual(ask(new(1), same(X, Y), same(Y, X), same(sym(1, sym(2, Y)), A), same(A, sym(1, Y)),
                             same(X, var(999999)), value(X)),
                         [[0], [-2], [-2], [-2], [-2], [-2], [0] + X])

    def test_a_symbol_is_no_variable(self):
        self.assertEqual(ask(same(sym(999, sym(5)), sym(999, sym(5)))), [[1]])

    def test_it_tells_goals_behind_1_and_none_behind_0(self):
        self.assertEqual(ask(new(1), when_bound(70, X), same(X, sym(1, X)), same(X, A)), [[0], [0], [0], [1, 70]])

    def test_nothing_wakes_where_all_was_so(self):
        self.assertEqual(ask(new(2), when_sure(7, X, Y), same(X, X), same(A, A)), [[0], [0], [1], [1]])


if __name__ == "__main__":
    unittest.main()
