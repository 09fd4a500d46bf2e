"""Points 9 to 11: mark, back and cut."""

import unittest

from tests.helper import (A, B, X, Y, Z, ask, back, cut, differ, last, mark, new, relation, same, sym, told, value, var,
                          waiting, when_bound, when_sure, when_whole)

MARKS = [mark() for turn in range(30)]


class Mark(unittest.TestCase):

    def test_marks_are_numbered_from_1(self):
        self.assertEqual(ask(mark(), mark(), new(1), mark()), [[1], [2], [0], [3]])

    def test_30_marks_and_no_more(self):
        told_of_it = ask(*MARKS, mark(), mark(), cut(30), mark(), mark())
        self.assertEqual(told_of_it, [[number] for number in range(1, 31)] + [[-8], [-8], [29], [30], [-8]])

    def test_a_refused_mark_is_none(self):
        self.assertEqual(ask(new(1), *MARKS, same(X, A), mark(), back(31), value(X), back(30), value(X))[-5:],
                         [[-8], [-2], [0] + A, [1], [0] + X])

    def test_it_changes_nothing(self):
        self.assertEqual(ask(new(2), when_bound(5, Y), same(X, A), differ(Y, A), mark(), value(X), told(0, 1), waiting(),
                             same(Y, A), same(Y, B)),
                         [[0], [0], [1], [1], [1], [0] + A, [0] + A + [0, 0, 1, 1, 0] + A, [1, 5, 0], [0], [1, 5]])


class Back(unittest.TestCase):

    def test_no_such_mark(self):
        self.assertEqual(ask(back(0), back(1), mark(), back(0), back(2), back(1000), back(1)),
                         [[-2], [-2], [1], [-2], [-2], [-2], [0]])

    def test_all_is_as_it_was_after_a_refusal(self):
        self.assertEqual(ask(new(1), mark(), same(X, A), back(2), back(0), value(X), mark()),
                         [[0], [1], [1], [-2], [-2], [0] + A, [2]])

    def test_variables(self):
        self.assertEqual(ask(new(3), mark(), new(4), value(var(6)), back(1), value(var(3)), value(Z), new(2),
                             value(var(4)), value(var(5))),
                         [[0], [1], [3], [0, 0, 6], [3], [-2], [0] + Z, [3], [0, 0, 4], [-2]])

    def test_a_variable_made_anew_is_free(self):
        self.assertEqual(ask(new(1), mark(), new(1), same(Y, A), differ(X, B), when_bound(3, X), back(1), new(1),
                             value(Y), same(Y, sym(4, X)), value(Y), same(X, B)),
                         [[0], [1], [1], [1], [1], [0], [1], [1], [0] + Y, [1], [0] + sym(4, X), [1]])

    def test_a_mark_of_the_empty_store(self):
        self.assertEqual(ask(mark(), new(20), same(X, A), back(1), value(X), told(), new(1), value(X)),
                         [[1], [0], [1], [0], [-2], [0, 0], [0], [0] + X])

    def test_80_variables_again(self):
        full = [new(20), new(20), new(20), new(20)]
        self.assertEqual(ask(mark(), *full, new(1), back(1), *full, new(1))[-6:], [[0], [0], [20], [40], [60], [-8]])

    def test_what_is_told_the_same(self):
        self.assertEqual(ask(new(3), same(X, sym(4, Y)), mark(), same(Y, A), same(Z, X), value(Z), back(1),
                             value(sym(3, X, Y, Z)), relation(Y, A), same(Y, B), value(X)),
                         [[0], [1], [1], [1], [1], [0] + sym(4, A), [3], [0] + sym(3, sym(4, Y), Y, Z), [0], [1],
                          [0] + sym(4, B)])

    def test_what_is_told_different(self):
        self.assertEqual(ask(new(2), differ(X, A), mark(), differ(X, Y), differ(Y, A), relation(X, Y), back(1),
                             relation(X, Y), relation(Y, A), relation(X, A), told(0, 1), same(X, Y), same(Y, A)),
                         [[0], [1], [1], [1], [1], [2], [2], [0], [0], [2], [0, 0, 0, 0, 1, 1, 1, 0] + A, [1], [0]])

    def test_a_difference_that_was_met_is_open_again(self):
        self.assertEqual(ask(new(1), differ(X, A), mark(), same(X, B), told(0), back(1), told(0), same(X, A)),
                         [[0], [1], [1], [1], [0] + B + [0], [1], [0, 0, 0, 1, 1, 0] + A, [0]])

    def test_30_differences_again(self):
        pairs = [differ(X, A) for turn in range(25)]
        told_of_it = ask(new(2), *pairs, mark(), *pairs[:5], differ(X, B), back(1), *pairs[:5], differ(X, B))
        self.assertEqual(told_of_it[-8:], [[-8], [2], [1], [1], [1], [1], [1], [-8]])

    def test_goals_that_woke_wait_again(self):
        self.assertEqual(ask(new(2), when_whole(7, X), when_bound(3, X), when_sure(5, X, Y), mark(), same(X, A),
                             differ(X, Y), waiting(), back(1), waiting(), differ(Y, X), waiting(), same(X, sym(4, Y))),
                         [[0], [0], [0], [0], [1], [1, 7, 3], [1, 5], [0], [2], [3, 7, 1, 3, 0, 5, 2], [1, 5],
                          [2, 7, 1, 3, 0], [1, 3]])

    def test_goals_that_came_later_are_gone(self):
        self.assertEqual(ask(new(1), when_bound(1, X), mark(), when_bound(2, X), waiting(), back(1), waiting(),
                             when_whole(3, X), same(X, A)),
                         [[0], [0], [1], [0], [2, 1, 0, 2, 0], [1], [1, 1, 0], [0], [1, 1, 3]])

    def test_30_goals_again(self):
        goals = [when_bound(goal, X) for goal in range(28)]
        told_of_it = ask(new(1), *goals, mark(), when_bound(50, X), when_bound(51, X), when_bound(52, X), back(1),
                         when_bound(53, X), when_bound(54, X), when_bound(55, X), same(X, A))
        self.assertEqual(told_of_it[-5:], [[1], [0], [0], [-8], [1] + list(range(28)) + [53, 54]])

    def test_no_goal_wakes_by_going_back(self):
        self.assertEqual(ask(new(2), same(X, A), mark(), when_bound(6, Y), back(1), waiting(), mark()),
                         [[0], [1], [1], [0], [2], [0], [2]])

    def test_back_to_a_mark_several_times(self):
        self.assertEqual(ask(new(2), differ(X, A), when_bound(4, X), mark(), same(X, B), back(1), same(X, A), same(X, Y),
                             when_bound(5, Y), waiting(), back(1), waiting(), value(sym(3, X, Y)), new(1), differ(X, B),
                             back(1), same(X, B), back(1), same(X, sym(3)), value(X)),
                         [[0], [1], [0], [1], [1, 4], [2], [0], [1], [0], [2, 4, 0, 5, 0], [2], [1, 4, 0],
                          [0] + sym(3, X, Y), [2], [1], [2], [1, 4], [2], [1, 4], [0] + sym(3)])

    def test_the_mark_stays_and_later_ones_are_gone(self):
        self.assertEqual(ask(new(1), mark(), same(X, sym(4, X)), mark(), mark(), back(2), back(3), mark(), back(1),
                             back(3), back(2), back(1), mark()),
                         [[0], [1], [0], [2], [3], [1], [-2], [3], [1], [-2], [-2], [1], [2]])

    def test_marks_are_of_what_was_then(self):
        self.assertEqual(ask(new(3), mark(), same(X, A), mark(), same(Y, A), mark(), same(Z, A), back(3),
                             value(sym(3, X, Y, Z)), back(2), value(sym(3, X, Y, Z)), same(Y, B), mark(), same(Z, B),
                             back(3), value(sym(3, X, Y, Z)), back(1), value(sym(3, X, Y, Z))),
                         [[0], [1], [1], [2], [1], [3], [1], [3], [0] + sym(3, A, A, Z), [3], [0] + sym(3, A, Y, Z),
                          [1], [3], [1], [3], [0] + sym(3, A, B, Z), [3], [0] + sym(3, X, Y, Z)])

    def test_terms_over_variables_that_are_gone(self):
        self.assertEqual(ask(new(1), mark(), new(2), same(X, sym(4, Z)), mark(), back(1), relation(X, Z), value(X),
                             new(1), when_whole(8, sym(4, Y)), same(X, sym(4, Y)), same(Y, A), value(X)),
                         [[0], [1], [1], [1], [2], [1], [-2], [0] + X, [1], [0], [1], [1, 8], [0] + sym(4, A)])


class Cut(unittest.TestCase):

    def test_no_such_mark(self):
        self.assertEqual(ask(cut(0), cut(1), mark(), cut(0), cut(2), cut(1000), mark()),
                         [[-2], [-2], [1], [-2], [-2], [-2], [2]])

    def test_that_mark_and_later_ones_are_gone(self):
        self.assertEqual(ask(mark(), mark(), mark(), mark(), cut(3), back(3), cut(3), back(2), mark(), cut(1), back(1),
                             mark()),
                         [[1], [2], [3], [4], [2], [-2], [-2], [0], [3], [0], [-2], [1]])

    def test_all_else_stays(self):
        self.assertEqual(ask(new(2), mark(), new(1), same(X, A), differ(Y, A), when_bound(3, Z), mark(), cut(1),
                             value(sym(5, X, Z)), relation(Y, A), waiting(), same(Z, A)),
                         [[0], [1], [2], [1], [1], [0], [2], [0], [0] + sym(5, A, Z), [2], [1, 3, 0], [1, 3]])

    def test_marks_before_it_stay(self):
        self.assertEqual(ask(new(1), mark(), same(X, sym(4, A)), mark(), cut(2), value(X), mark(), back(1), value(X)),
                         [[0], [1], [1], [2], [1], [0] + sym(4, A), [2], [1], [0] + X])

    def test_a_number_is_given_anew(self):
        self.assertEqual(last(new(2), mark(), same(X, A), cut(1), mark(), same(Y, A), back(1), value(sym(3, X, Y))),
                         [0] + sym(3, A, Y))


if __name__ == "__main__":
    unittest.main()
