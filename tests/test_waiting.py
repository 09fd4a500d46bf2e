"""Point 8: waiting."""

import unittest

from tests.helper import (A, B, X, Y, Z, ask, differ, last, new, same, sym, waiting,
                          when_bound, when_sure, when_whole)


class Waiting(unittest.TestCase):

    def test_none(self):
        self.assertEqual(ask(waiting(), new(1), waiting()), [[0], [0], [0]])

    def test_the_order_in_which_they_began_and_for_what(self):
        self.assertEqual(last(new(2), when_sure(9, X, Y), when_bound(3, X), when_whole(9999, sym(4, X)), when_bound(0, Y),
                              waiting()), [4, 9, 2, 3, 0, 9999, 1, 0, 0])

    def test_one_number_several_times(self):
        self.assertEqual(last(new(1), when_bound(5, X), when_whole(5, X), when_bound(5, X), waiting()),
                         [3, 5, 0, 5, 1, 5, 0])

    def test_what_was_so_already_does_not_wait(self):
        self.assertEqual(last(new(1), when_bound(5, A), when_whole(6, A), when_sure(7, A, B), when_bound(8, sym(3, X)),
                              when_whole(9, sym(3, X)), waiting()), [1, 9, 1])

    def test_after_goals_woke(self):
        self.assertEqual(ask(new(3), when_whole(1, X), when_bound(2, X), when_sure(3, X, Z), when_bound(4, Y),
                             when_sure(5, Y, Z), same(X, sym(4, Y)), waiting(), differ(Y, Z), waiting(),
                             when_bound(6, Z), waiting(), same(Y, A), waiting()),
                         [[0], [0], [0], [0], [0], [0], [1, 2], [4, 1, 1, 3, 2, 4, 0, 5, 2], [1, 5],
                          [3, 1, 1, 3, 2, 4, 0], [0], [4, 1, 1, 3, 2, 4, 0, 6, 0], [1, 1, 4], [2, 3, 2, 6, 0]])

    def test_what_answers_0_or_is_refused_leaves_them_as_they_are(self):
        self.assertEqual(ask(new(1), when_bound(1, X), same(X, sym(4, X)), differ(X, X), when_bound(2, Y), same(X, Y),
                             waiting())[-1], [1, 1, 0])

    def test_30_goals(self):
        goals = [when_whole(goal, X) for goal in range(30, 0, -1)]
        wanted = [30]
        for goal in range(30, 0, -1):
            wanted.extend([goal, 1])
        self.assertEqual(ask(new(1), *goals, when_bound(50, X), waiting())[-2:], [[-8], wanted])


if __name__ == "__main__":
    unittest.main()
