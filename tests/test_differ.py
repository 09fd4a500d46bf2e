"""Point 3: differ."""

import unittest

from tests.helper import A, B, X, Y, Z, ask, differ, last, new, same, sym, value, var, when_sure


def thirty():
    return [differ(var(0), var(1)) for turn in range(30)]


class Differ(unittest.TestCase):

    def test_what_is_surely_the_same_is_not_told_different(self):
        self.assertEqual(ask(new(2), differ(X, X), differ(sym(1, X, A), sym(1, X, A)), same(X, sym(4, Y)),
                             differ(X, sym(4, Y)), differ(sym(2, X), sym(2, sym(4, Y)))),
                         [[0], [0], [0], [1], [0], [0]])

    def test_nothing_is_told_where_it_answers_0(self):
        self.assertEqual(ask(new(2), same(X, Y), differ(X, Y), same(X, A), same(Y, A), value(Y)),
                         [[0], [1], [0], [1], [1], [0] + A])

    def test_what_is_different_anyway(self):
        self.assertEqual(ask(new(1), differ(A, B), differ(X, sym(1, X)), differ(sym(1), sym(1, X)), same(X, A)),
                         [[0], [1], [1], [1], [1]])

    def test_it_makes_nothing_the_same(self):
        pairs = [differ(X, sym(symbol)) for symbol in range(30)]
        told = ask(new(1), *pairs, value(X), same(X, sym(29)), same(X, sym(30)))
        self.assertEqual(told, [[0]] + [[1]] * 30 + [[0] + X, [0], [1]])

    def test_many_variables_that_all_differ(self):
        pairs = [differ(var(one), var(other)) for one in range(8) for other in range(one)]
        told = ask(new(8), *pairs, differ(X, X), same(var(3), A), same(var(6), A), same(var(6), B))
        self.assertEqual(told, [[0]] + [[1]] * 28 + [[0], [1], [0], [1]])

    def test_30_pairs_are_told_and_no_more(self):
        told = ask(new(3), *thirty(), differ(X, Z), same(X, Z), value(Z), same(X, Y))
        self.assertEqual(told, [[0]] + [[1]] * 30 + [[-8], [1], [0] + X, [0]])

    def test_29_pairs_leave_one(self):
        told = ask(new(3), *thirty()[1:], differ(X, Z), same(X, Z))
        self.assertEqual(told[-2:], [[1], [0]])

    def test_what_answers_0_is_not_one_of_the_30(self):
        told = ask(new(3), differ(X, X), *thirty()[1:], differ(Z, Z), differ(X, Z), differ(Y, Z))
        self.assertEqual(told[-3:], [[0], [1], [-8]])

    def test_what_is_different_anyway_is_one_of_the_30(self):
        self.assertEqual(last(new(2), *[differ(A, B) for turn in range(30)], differ(X, Y)), [-8])

    def test_too_many_goes_ahead_of_0(self):
        self.assertEqual(last(new(2), *thirty(), differ(X, X)), [-8])

    def test_a_missing_variable_goes_ahead_of_too_many(self):
        self.assertEqual(last(new(2), *thirty(), differ(X, Z)), [-2])
        self.assertEqual(last(new(2), *thirty(), differ(Z, X)), [-2])

    def test_a_variable_that_is_not_there(self):
        self.assertEqual(ask(new(1), differ(X, Y), differ(sym(3, Y), A), differ(Y, Y)), [[0], [-2], [-2], [-2]])

    def test_no_goal_wakes_at_a_refusal(self):
        told = ask(new(3), when_sure(5, X, Z), *thirty(), differ(X, Z), same(X, Z))
        self.assertEqual(told[-2:], [[-8], [1, 5]])


if __name__ == "__main__":
    unittest.main()
