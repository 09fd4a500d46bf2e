"""Point 6: relation."""

import unittest

from tests.helper import A, B, W, X, Y, Z, ask, differ, last, new, relation, same, sym, value, var, waiting, when_sure


class Relation(unittest.TestCase):

    def test_surely_the_same(self):
        self.assertEqual(ask(new(2), relation(X, X), relation(A, A), relation(sym(3, X, A), sym(3, X, A)),
                             same(X, sym(4, Y)), relation(X, sym(4, Y)), relation(sym(4, Y), X), same(Y, A),
                             relation(X, sym(4, A))),
                         [[0], [1], [1], [1], [1], [1], [1], [1], [1]])

    def test_surely_the_same_over_several_steps(self):
        self.assertEqual(last(new(4), same(X, Y), same(Z, W), same(W, Y), relation(sym(5, X, Z), sym(5, W, Y))), [1])

    def test_surely_different_symbols(self):
        self.assertEqual(ask(new(2), relation(A, B), relation(sym(7), sym(7, X)), relation(sym(7, X), sym(7, X, X)),
                             relation(sym(3, X, A), sym(3, Y, B))), [[0], [2], [2], [2], [2]])

    def test_surely_different_as_none_is_a_part_of_itself(self):
        self.assertEqual(ask(new(3), relation(X, sym(4, X)), relation(sym(5, X, Y), sym(5, sym(4, Y), sym(4, X))),
                             same(X, sym(4, Y)), relation(X, Y), relation(Y, sym(6, Z, X)), relation(X, sym(4, Z))),
                         [[0], [2], [2], [1], [2], [2], [0]])

    def test_both_can_be(self):
        self.assertEqual(ask(new(3), relation(X, Y), relation(X, A), relation(sym(3, X, Y), sym(3, A, B)),
                             relation(sym(3, X, A), sym(3, Y, Z))), [[0], [0], [0], [0], [0]])

    def test_told_different(self):
        self.assertEqual(ask(new(3), differ(X, Y), relation(X, Y), relation(Y, X), relation(X, Z), relation(Y, Z),
                             relation(sym(4, X, Z), sym(4, Y, Z)), relation(sym(4, X, Z), sym(4, Z, Y)),
                             relation(X, A), relation(sym(4, X, Y), sym(4, A, A)),
                             relation(sym(4, X, Y), sym(4, A, B))),
                         [[0], [1], [2], [2], [0], [0], [2], [2], [0], [2], [0]])

    def test_a_difference_with_several_conditions(self):
        self.assertEqual(ask(new(3), differ(sym(5, X, Y), sym(5, A, A)), relation(X, A), relation(X, Y),
                             relation(sym(6, X, Y, Z), sym(6, A, A, B)), same(X, Y), relation(X, A), relation(Y, A),
                             relation(Y, B)),
                         [[0], [1], [0], [0], [2], [1], [2], [2], [0]])

    def test_a_met_difference_makes_nothing_different(self):
        self.assertEqual(ask(new(2), differ(sym(5, X, Y), sym(5, A, A)), same(X, B), relation(Y, A), relation(X, A)),
                         [[0], [1], [1], [0], [2]])

    def test_differences_make_nothing_the_same(self):
        pairs = [differ(X, sym(symbol)) for symbol in range(30)]
        told = ask(new(1), *pairs, relation(X, sym(29)), relation(X, sym(30)), relation(X, sym(29, X)))
        self.assertEqual(told[-3:], [[2], [0], [2]])

    def test_a_difference_that_follows_by_what_is_told_the_same(self):
        self.assertEqual(ask(new(4), same(X, sym(4, Y)), same(Z, sym(4, W)), differ(X, Z), relation(Y, W),
                             relation(W, Y), same(W, A), relation(Y, A), relation(X, sym(4, A)), relation(Y, B)),
                         [[0], [1], [1], [1], [2], [2], [1], [2], [2], [0]])

    def test_it_tells_nothing(self):
        self.assertEqual(ask(new(2), when_sure(5, X, Y), relation(X, Y), relation(X, A), value(sym(3, X, Y)), waiting(),
                             same(X, A), same(Y, A)),
                         [[0], [0], [0], [0], [0] + sym(3, X, Y), [1, 5, 2], [1], [1, 5]])

    def test_a_variable_that_is_not_there(self):
        self.assertEqual(ask(relation(X, X), new(1), relation(X, Y), relation(Y, X), relation(sym(3, A, Y), B),
                             relation(A, sym(2, sym(2, Y))), relation(var(999999), A), relation(X, A)),
                         [[-2], [0], [-2], [-2], [-2], [-2], [-2], [0]])


if __name__ == "__main__":
    unittest.main()
