"""Point 1: new."""

import unittest

from tests.helper import ask, last, new, value, var, X


class New(unittest.TestCase):

    def test_numbers_go_on(self):
        self.assertEqual(ask(new(1), new(2), new(20), new(3)), [[0], [1], [3], [23]])

    def test_just_these_variables_are_there(self):
        self.assertEqual(ask(new(3), value(var(2)), value(var(3))), [[0], [0, 0, 2], [-2]])

    def test_none_is_there_at_the_beginning(self):
        self.assertEqual(ask(value(X)), [[-2]])

    def test_a_count_of_0_is_refused(self):
        self.assertEqual(ask(new(0), value(X), new(1)), [[-1], [-2], [0]])

    def test_a_count_above_20_is_refused(self):
        self.assertEqual(ask(new(21), new(1000), value(X), new(20)), [[-1], [-1], [-2], [0]])

    def test_80_variables_are_not_too_many(self):
        self.assertEqual(ask(new(20), new(20), new(20), new(19), new(1), value(var(79))),
                         [[0], [20], [40], [60], [79], [0, 0, 79]])

    def test_81_variables_are_too_many(self):
        self.assertEqual(ask(new(20), new(20), new(20), new(20), new(1), value(var(80))),
                         [[0], [20], [40], [60], [-8], [-2]])

    def test_a_refused_count_takes_none_of_what_is_left(self):
        self.assertEqual(ask(new(20), new(20), new(20), new(15), new(6), value(var(75)), new(5)),
                         [[0], [20], [40], [60], [-8], [-2], [75]])

    def test_a_wrong_count_goes_ahead_of_too_many(self):
        full = [new(20), new(20), new(20), new(20)]
        self.assertEqual(last(*full, new(0)), [-1])
        self.assertEqual(last(*full, new(21)), [-1])


if __name__ == "__main__":
    unittest.main()
