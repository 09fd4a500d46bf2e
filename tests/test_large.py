"""Values that nest some thousands deep, and values far larger than any term that is handed over."""

import unittest

from tests.helper import (A, B, X, ask, chain, differ, last, new, same, sym, value, var,
                          when_bound, when_sure, when_whole)

VARIABLES = [new(20), new(20), new(20)]


def deep(first, links):
    """Variables from the first on, each the next one 39 deep."""
    return [same(var(n), chain(1, 39, var(n + 1))) for n in range(first, first + links)]


def wide(first, links):
    """Variables from the first on, each with the next one sixteen times in it."""
    return [same(var(n), sym(2, *[sym(3, *[var(n + 1)] * 4)] * 4)) for n in range(first, first + links)]


class Deep(unittest.TestCase):

    def test_more_than_two_thousand_deep(self):
        told = ask(*VARIABLES, *deep(0, 52), value(X), when_whole(7, X), same(var(52), A), value(X), value(var(50)))
        self.assertEqual(told[3:], [[1]] * 52 + [[-5], [0], [1, 7], [-5], [0] + chain(1, 78, A)])

    def test_no_part_of_itself_however_deep(self):
        told = ask(*VARIABLES, *deep(0, 54), same(var(54), sym(5, X)), same(X, var(54)), value(var(54)))
        self.assertEqual(told[-3:], [[0], [0], [0, 0, 54]])

    def test_two_deep_values_become_the_same(self):
        told = ask(*VARIABLES, *deep(0, 24), *deep(30, 24), when_sure(7, X, var(30)), differ(var(24), A),
                   when_bound(8, var(54)), same(X, var(30)), value(var(54)), same(var(54), A), same(var(24), B))
        self.assertEqual(told[-7:], [[0], [1], [0], [1, 7], [0, 0, 24], [0], [1, 8]])

    def test_a_difference_far_below(self):
        told = ask(*VARIABLES, *deep(0, 24), *deep(30, 24), differ(X, var(30)), same(var(24), A),
                   when_sure(7, var(54), A), same(var(54), A), same(var(54), B), differ(X, var(30)))
        self.assertEqual(told[-6:], [[1], [1], [1], [0], [1], [1]])


class Wide(unittest.TestCase):

    def test_a_value_of_more_digits_than_can_be_walked(self):
        told = ask(*VARIABLES, *wide(0, 50), value(X), when_whole(7, X), same(var(50), A), value(var(49)),
                   value(var(48)))
        self.assertEqual(told[-5:], [[-5], [0], [1, 7], [0] + sym(2, *[sym(3, A, A, A, A)] * 4), [0] + twice()])

    def test_two_such_values(self):
        told = ask(*VARIABLES, *wide(0, 24), *wide(30, 24), when_sure(7, X, var(30)), differ(X, var(30)),
                   same(X, var(30)), same(var(24), A), same(var(54), A), same(var(54), B))
        self.assertEqual(told[-6:], [[0], [1, 7], [0], [1], [0], [1]])

    def test_such_values_are_surely_the_same(self):
        told = ask(*VARIABLES, *wide(0, 24), *wide(30, 24), when_sure(7, X, var(30)), same(var(54), var(24)),
                   differ(X, var(30)), same(X, var(30)), value(var(54)))
        self.assertEqual(told[-5:], [[0], [1, 7], [0], [1], [0, 0, 24]])

    def test_no_part_of_itself_however_wide(self):
        told = ask(*VARIABLES, *wide(0, 50), same(var(50), sym(5, X)), value(var(50)))
        self.assertEqual(told[-2:], [[0], [0, 0, 50]])

    def test_many_goals_on_deep_values(self):
        goals = [when_sure(goal, sym(4, X, sym(4, X)), sym(4, var(30), sym(4, var(30)))) for goal in range(20)]
        told = ask(*VARIABLES, *deep(0, 10), *deep(30, 10), *goals, *[same(var(50), var(n)) for n in range(51, 59)],
                   same(var(10), var(40)))
        self.assertEqual(told[-9:], [[1]] * 8 + [[1] + list(range(20))])


def twice():
    inner = sym(2, *[sym(3, A, A, A, A)] * 4)
    return sym(2, *[sym(3, inner, inner, inner, inner)] * 4)


class Sizes(unittest.TestCase):

    def test_the_largest_terms_that_are_handed_over(self):
        self.assertEqual(last(new(1), same(X, chain(9, 39, A)), value(X)), [0] + chain(9, 39, A))
        self.assertEqual(len(last(new(1), same(X, sym(4, *[chain(9, 38, A)])), value(sym(3, X, X)))), 1 + 2 * 81)


if __name__ == "__main__":
    unittest.main()
