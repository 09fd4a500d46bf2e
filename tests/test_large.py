"""Values that nest some thousands deep, and values far larger than any term that is handed over."""

import unittest

from tests.helper import (A, B, X, ask, back, chain, cut, differ, last, mark, new, relation, same, sym, told, value, var,
                          waiting, when_bound, when_sure, when_whole)

VARIABLES = [new(20), new(20), new(20)]


def deep(first, links):
    """Variables from the first on, each the next one 39 deep."""
    return [same(var(n), chain(1, 39, var(n + 1))) for n in range(first, first + links)]


def wide(first, links):
    """Variables from the first on, each with the next one sixteen times in it."""
    return [same(var(n), sym(2, *[sym(3, *[var(n + 1)] * 4)] * 4)) for n in range(first, first + links)]


class Deep(unittest.TestCase):

    def test_more_than_two_thousand_deep(self):
        told = ask(*VARIABLES, *deep(0, 52), value(X), when_whole(7, X), same(var(52), A), value(X), value(var(50)))
        self.assertEqual(told[3:], [[1]] * 52 + [[-5], [0], [1, 7], [-5], [0] + chain(1, 78, A)])

    def test_no_part_of_itself_however_deep(self):
        told = ask(*VARIABLES, *deep(0, 54), same(var(54), sym(5, X)), same(X, var(54)), value(var(54)))
        self.assertEqual(told[-3:], [[0], [0], [0, 0, 54]])

    def test_two_deep_values_become_the_same(self):
        told = ask(*VARIABLES, *deep(0, 24), *deep(30, 24), when_sure(7, X, var(30)), differ(var(24), A),
                   when_bound(8, var(54)), same(X, var(30)), value(var(54)), same(var(54), A), same(var(24), B))
        self.assertEqual(told[-7:], [[0], [1], [0], [1, 7], [0, 0, 24], [0], [1, 8]])

    def test_a_difference_far_below(self):
        told = ask(*VARIABLES, *deep(0, 24), *deep(30, 24), differ(X, var(30)), same(var(24), A),
                   when_sure(7, var(54), A), same(var(54), A), same(var(54), B), differ(X, var(30)))
        self.assertEqual(told[-6:], [[1], [1], [1], [0], [1], [1]])

    def test_how_two_deep_values_stand_to_each_other(self):
        given = ask(*VARIABLES, *deep(0, 24), *deep(30, 24), relation(X, var(30)), relation(X, var(29)),
                    relation(X, var(24)), relation(X, var(54)), same(var(24), var(54)), relation(X, var(30)))
        self.assertEqual(given[-6:], [[0], [0], [2], [0], [1], [1]])

    def test_what_is_left_of_a_deep_difference(self):
        given = ask(*VARIABLES, *deep(0, 24), *deep(30, 24), differ(X, var(30)), told(54, 24), told(0, 24, 54), told(24),
                    differ(var(54), var(24)), told(24, 54))
        self.assertEqual(given[-5:], [[0, 0, 0, 0, 1, 1, 1, 0, 0, 1], [-5], [0, 0, 0, 0], [1],
                                      [0, 0, 0, 0, 1, 1, 1, 1, 0, 0]])

    def test_a_deep_value_in_a_condition(self):
        self.assertEqual(last(*VARIABLES, *deep(0, 52), differ(X, var(59)), told()), [-5])
        self.assertEqual(last(*VARIABLES, *deep(0, 52), differ(X, var(59)), same(var(59), A), told(52)), [0, 0, 0, 0])

    def test_back_from_a_deep_value(self):
        given = ask(*VARIABLES, when_whole(7, X), mark(), *deep(0, 50), value(X), same(var(50), A), waiting(), back(1),
                    waiting(), value(sym(3, X, var(50))))
        self.assertEqual(given[-6:], [[-5], [1, 7], [0], [60], [1, 7, 1], [0] + sym(3, X, var(50))])


class Wide(unittest.TestCase):

    def test_a_value_of_more_digits_than_can_be_walked(self):
        told = ask(*VARIABLES, *wide(0, 50), value(X), when_whole(7, X), same(var(50), A), value(var(49)),
                   value(var(48)))
        self.assertEqual(told[-5:], [[-5], [0], [1, 7], [0] + sym(2, *[sym(3, A, A, A, A)] * 4), [0] + twice()])

    def test_two_such_values(self):
        told = ask(*VARIABLES, *wide(0, 24), *wide(30, 24), when_sure(7, X, var(30)), differ(X, var(30)),
                   same(X, var(30)), same(var(24), A), same(var(54), A), same(var(54), B))
        self.assertEqual(told[-6:], [[0], [1, 7], [0], [1], [0], [1]])

    def test_such_values_are_surely_the_same(self):
        told = ask(*VARIABLES, *wide(0, 24), *wide(30, 24), when_sure(7, X, var(30)), same(var(54), var(24)),
                   differ(X, var(30)), same(X, var(30)), value(var(54)))
        self.assertEqual(told[-5:], [[0], [1, 7], [0], [1], [0, 0, 24]])

    def test_no_part_of_itself_however_wide(self):
        told = ask(*VARIABLES, *wide(0, 50), same(var(50), sym(5, X)), value(var(50)))
        self.assertEqual(told[-2:], [[0], [0, 0, 50]])

    def test_what_is_left_of_a_wide_difference(self):
        given = ask(*VARIABLES, *wide(0, 24), *wide(30, 24), differ(X, var(30)), relation(var(24), var(54)),
                    told(54, 24), told(54, 0), same(var(54), A), told(24))
        self.assertEqual(given[-6:], [[1], [2], [0, 0, 0, 0, 1, 1, 1, 0, 0, 1], [-5], [1],
                                      [0, 0, 0, 1, 1, 0] + A])

    def test_wide_differences_that_follow_from_each_other(self):
        pairs = [differ(var(n), var(30 + n)) for n in range(9)]
        given = ask(*VARIABLES, *wide(0, 20), *wide(30, 20), *pairs[:5], *pairs[7:], told(20, 50))
        self.assertEqual(given[-1], [0, 0, 0, 0, 1, 1, 1, 1, 0, 0])

    def test_many_differences_and_goals_as_deep_values_grow(self):
        pairs = [differ(sym(9, X, var(n + 10)), sym(9, chain(1, 20, var(n)), A)) for n in range(20, 30)]
        more = [differ(sym(9, X, var(20)), sym(9, var(n), sym(n))) for n in range(40, 50)]
        goals = [when_sure(n, sym(9, X, var(19)), sym(9, var(n), sym(n))) for n in range(30, 38)]
        grown = []
        for written in reversed(deep(0, 12)):
            grown.extend([written, told(*range(20, 30))])
        given = ask(*VARIABLES, *pairs, *more, *goals, *grown, waiting(), told(12, 20, 30))
        self.assertEqual([answer[0] for answer in given[3:-2]], [1] * 20 + [0] * 8 + [1, 0] * 12)
        self.assertEqual(given[-2][:5], [8, 30, 2, 31, 2])
        self.assertEqual(given[-1], [0, 0, 0, 0, 1, 0, 2, 1, 2, 1] + chain(1, 12 * 39 - 20, X) + [2] + A)

    def test_many_marks_of_deep_values(self):
        grown = []
        for written in deep(0, 25):
            grown.extend([mark(), written])
        given = ask(*VARIABLES, *grown, value(var(13)), back(14), value(X), value(var(12)), value(var(13)), cut(2))
        self.assertEqual(given[-6:], [[0] + chain(1, 12 * 39, var(25)), [60], [-5], [0] + chain(1, 39, var(13)),
                                      [0, 0, 13], [1]])

    def test_many_goals_on_deep_values(self):
        goals = [when_sure(goal, sym(4, X, sym(4, X)), sym(4, var(30), sym(4, var(30)))) for goal in range(20)]
        told = ask(*VARIABLES, *deep(0, 10), *deep(30, 10), *goals, *[same(var(50), var(n)) for n in range(51, 59)],
                   same(var(10), var(40)))
        self.assertEqual(told[-9:], [[1]] * 8 + [[1] + list(range(20))])


def twice():
    inner = sym(2, *[sym(3, A, A, A, A)] * 4)
    return sym(2, *[sym(3, inner, inner, inner, inner)] * 4)


class Sizes(unittest.TestCase):

    def test_the_largest_terms_that_are_handed_over(self):
        self.assertEqual(last(new(1), same(X, chain(9, 39, A)), value(X)), [0] + chain(9, 39, A))
        self.assertEqual(len(last(new(1), same(X, sym(4, *[chain(9, 38, A)])), value(sym(3, X, X)))), 1 + 2 * 81)


if __name__ == "__main__":
    unittest.main()
