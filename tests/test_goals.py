"""Point 4: when bound, when whole, when sure; and the goals that same and differ wake."""

import unittest

from tests.helper import (A, B, W, X, Y, Z, ask, differ, last, new, same, sym, value, var,
                          when_bound, when_sure, when_whole)


class Bound(unittest.TestCase):

    def test_so_already(self):
        self.assertEqual(ask(new(2), when_bound(1, A), when_bound(2, sym(3, X)), same(X, sym(4, Y)), when_bound(3, X),
                             same(Y, A)), [[0], [1], [1], [1], [1], [1]])

    def test_it_wakes_once_at_the_call_that_binds(self):
        self.assertEqual(ask(new(3), when_bound(8, X), same(X, Y), differ(X, A), same(Y, sym(4, Z)), same(Z, A)),
                         [[0], [0], [1], [1], [1, 8], [1]])

    def test_it_need_not_be_whole(self):
        self.assertEqual(last(new(2), when_bound(8, X), same(X, sym(4, Y))), [1, 8])

    def test_differences_bind_nothing(self):
        pairs = [differ(X, sym(symbol)) for symbol in range(30)]
        told = ask(new(1), when_bound(8, X), *pairs, same(X, sym(40)))
        self.assertEqual(told, [[0], [0]] + [[1]] * 30 + [[1, 8]])


class Whole(unittest.TestCase):

    def test_so_already(self):
        self.assertEqual(ask(new(2), when_whole(1, sym(3, A, B)), same(X, sym(4, A)), when_whole(2, sym(5, X)),
                             when_whole(3, sym(5, X, Y))), [[0], [1], [1], [1], [0]])

    def test_it_waits_for_the_last_variable(self):
        self.assertEqual(ask(new(4), when_whole(9, sym(5, X, sym(6, Y))), same(Y, B), same(X, sym(4, Z, W)), same(W, A),
                             same(Z, W), same(A, A)), [[0], [0], [1], [1], [1], [1, 9], [1]])

    def test_a_variable_waits(self):
        self.assertEqual(ask(new(2), when_whole(9, X), same(X, Y), same(Y, A)), [[0], [0], [1], [1, 9]])


class Sure(unittest.TestCase):

    def test_so_already(self):
        self.assertEqual(ask(new(2), when_sure(1, X, X), when_sure(2, A, B), when_sure(3, X, sym(1, X)),
                             when_sure(4, sym(1, X), sym(1, X, Y)), when_sure(5, sym(1, X, A), sym(1, Y, B)),
                             same(X, Y), when_sure(6, X, Y)), [[0], [1], [1], [1], [1], [1], [1], [1]])

    def test_it_wakes_when_they_are_surely_the_same(self):
        self.assertEqual(ask(new(4), when_sure(7, sym(1, X, Y), sym(1, Z, W)), same(X, Z), same(Y, A), same(W, A), same(A, A)),
                         [[0], [0], [1], [1], [1, 7], [1]])

    def test_it_wakes_when_symbols_clash(self):
        self.assertEqual(ask(new(2), when_sure(7, X, Y), same(X, A), same(Y, B)), [[0], [0], [1], [1, 7]])

    def test_it_wakes_when_one_would_be_a_part_of_itself(self):
        self.assertEqual(ask(new(3), when_sure(7, X, Y), same(X, sym(1, Z)), same(Z, Y), same(Y, A)),
                         [[0], [0], [1], [1, 7], [1]])

    def test_surely_different_by_what_is_told_different(self):
        self.assertEqual(ask(new(2), when_sure(7, X, Y), differ(X, Y), when_sure(8, X, Y),
                             when_sure(9, sym(4, X, A), sym(4, Y, A))), [[0], [0], [1, 7], [1], [1]])

    def test_different_where_a_difference_would_be_broken_by_it(self):
        self.assertEqual(ask(new(3), when_sure(7, sym(4, X, Y), sym(4, A, B)), differ(sym(5, X, Z), sym(5, A, Z)),
                             when_sure(8, X, A), when_sure(9, Y, B)), [[0], [0], [1, 7], [1], [0]])

    def test_a_difference_of_two_conditions_is_not_sure_of_one(self):
        self.assertEqual(ask(new(2), differ(sym(5, X, Y), sym(5, A, A)), when_sure(7, X, A), when_sure(8, X, Y),
                             same(Y, A), same(X, B)), [[0], [1], [0], [0], [1, 7, 8], [1]])

    def test_a_difference_over_other_variables(self):
        self.assertEqual(ask(new(4), differ(X, Z), when_sure(7, X, Y), same(Y, Z), same(X, A)),
                         [[0], [1], [0], [1, 7], [1]])

    def test_a_met_difference_makes_nothing_sure(self):
        self.assertEqual(ask(new(3), differ(sym(5, X, Y), sym(5, A, A)), same(X, B), when_sure(7, Y, A), same(Y, A)),
                         [[0], [1], [1], [0], [1, 7]])


class Waiting(unittest.TestCase):

    def test_they_wake_in_the_order_in_which_they_began_to_wait(self):
        self.assertEqual(ask(new(2), when_whole(9, X), when_sure(3, X, A), when_bound(5, X), when_bound(0, Y),
                             when_bound(4, X), when_sure(9999, X, Y), same(X, A), same(Y, B)),
                         [[0], [0], [0], [0], [0], [0], [0], [1, 9, 3, 5, 4], [1, 0, 9999]])

    def test_differ_wakes_in_that_order(self):
        self.assertEqual(last(new(3), when_sure(9, X, Y), when_sure(8, X, Z), when_bound(7, X),
                              when_sure(6, sym(1, X), sym(1, Y)), differ(Y, X)), [1, 9, 6])

    def test_one_number_several_times(self):
        self.assertEqual(ask(new(2), when_bound(4, X), when_bound(4, X), when_whole(4, Y), when_bound(4, A),
                             same(X, A), same(Y, A)), [[0], [0], [0], [0], [1], [1, 4, 4], [1, 4]])

    def test_a_goal_that_was_so_does_not_wait(self):
        self.assertEqual(ask(new(2), same(X, A), when_bound(4, X), when_whole(5, X), when_sure(6, X, A), same(Y, A)),
                         [[0], [1], [1], [1], [1], [1]])

    def test_30_goals_wait_and_no_more(self):
        goals = [when_bound(goal, X) for goal in range(30)]
        told = ask(new(2), *goals, when_bound(50, Y), when_whole(51, Y), when_sure(52, X, Y), same(Y, A), same(X, A))
        self.assertEqual(told, [[0]] + [[0]] * 30 + [[-8]] * 3 + [[1], [1] + list(range(30))])

    def test_too_many_goes_ahead_of_so_already(self):
        goals = [when_bound(goal, X) for goal in range(30)]
        self.assertEqual(ask(new(2), *goals, when_bound(50, A), when_whole(51, A), when_sure(52, A, A))[-3:], [[-8]] * 3)

    def test_a_missing_variable_goes_ahead_of_too_many(self):
        goals = [when_sure(goal, X, Y) for goal in range(30)]
        told = ask(new(2), *goals, when_bound(50, Z), when_whole(51, sym(1, Z)), when_sure(52, A, Z), when_sure(52, Z, A))
        self.assertEqual(told[-4:], [[-2]] * 4)

    def test_what_woke_or_was_so_is_not_one_of_the_30(self):
        goals = [when_bound(goal, X) for goal in range(29)]
        told = ask(new(3), when_bound(60, A), when_bound(61, Y), *goals, same(Y, A), when_bound(62, Z),
                   when_bound(63, Z))
        self.assertEqual(told[-3:], [[1, 61], [0], [-8]])

    def test_a_variable_that_is_not_there(self):
        self.assertEqual(ask(new(1), when_bound(1, Y), when_whole(2, sym(1, X, Y)), when_sure(3, X, Y), when_sure(4, Y, X),
                             new(1), same(X, A), same(Y, A)), [[0], [-2], [-2], [-2], [-2], [1], [1], [1]])

    def test_new_and_value_wake_nothing(self):
        self.assertEqual(ask(new(1), when_bound(1, X), new(1), value(X), value(var(1)), same(X, A)),
                         [[0], [0], [1], [0] + X, [0, 0, 1], [1, 1]])


if __name__ == "__main__":
    unittest.main()
