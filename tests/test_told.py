"""Point 7: told; and what is told of conditions ahead of it."""

import unittest

from tests.helper import A, B, W, X, Y, Z, ask, chain, differ, last, new, same, sym, told, value, var

V = var(4)


def answer(rows, *differences):
    """The answer of told; a difference is a list of conditions, each a new number and a row."""
    numbers = [0]
    for row in rows:
        numbers.extend(row)
    numbers.append(len(differences))
    for conditions in differences:
        numbers.append(len(conditions))
        for number, row in conditions:
            numbers.append(number)
            numbers.extend(row)
    return numbers


class Values(unittest.TestCase):

    def test_written_out(self):
        self.assertEqual(last(new(4), same(X, sym(3, W, Y)), told(0, 1, 3)), [0, 3, 3, 0, 0, 0, 1, 0, 1, 0, 0, 0])

    def test_numbered_anew_as_they_come_first(self):
        self.assertEqual(last(new(5), told(4, 2, 3)), answer([X, Y, Z]))
        self.assertEqual(last(new(5), same(W, sym(6, V, X, V)), told(3, 0, 4, 1)),
                         answer([sym(6, X, Y, X), Y, X, Z]))

    def test_the_same_variables_have_one_number(self):
        self.assertEqual(last(new(4), same(W, Y), told(3, 2, 1)), answer([X, Y, X]))

    def test_a_variable_several_times(self):
        self.assertEqual(last(new(3), told(2, 0, 2, 2)), answer([X, Y, X, X]))
        self.assertEqual(last(new(2), same(X, sym(4, Y)), told(0, 0)), answer([sym(4, X), sym(4, X)]))

    def test_whole_values(self):
        self.assertEqual(last(new(2), same(X, sym(4, A, sym(999))), same(Y, B), told(1, 0)),
                         answer([B, sym(4, A, sym(999))]))

    def test_none(self):
        self.assertEqual(ask(told(), new(2), told(), differ(X, Y), differ(X, A), told()),
                         [[0, 0], [0], [0, 0], [1], [1], [0, 0]])

    def test_20_variables(self):
        self.assertEqual(last(new(20), told(*range(19, -1, -1))), answer([var(number) for number in range(20)]))
        self.assertEqual(last(new(1), told(*[0] * 20)), answer([X] * 20))


class Differences(unittest.TestCase):

    def test_two_variables_written_out(self):
        # Were they the same, variable 1 would have the value 0; by the new numbers 1 is 0, and 0 is 1.
        self.assertEqual(last(new(2), differ(X, Y), told(1, 0)), [0, 0, 0, 0, 1, 1, 1, 0, 0, 1])
        self.assertEqual(last(new(2), differ(Y, X), told(0, 1)), [0, 0, 0, 0, 1, 1, 1, 1, 0, 0])

    def test_a_variable_and_a_term(self):
        self.assertEqual(last(new(3), differ(X, sym(4, Z, A)), told(2, 0)),
                         answer([X, Y], [(1, sym(4, X, A))]))

    def test_met_at_once(self):
        self.assertEqual(last(new(1), differ(A, B), differ(X, sym(4, X)), told(0)), answer([X]))

    def test_met_by_what_is_told_the_same(self):
        self.assertEqual(ask(new(3), differ(X, A), differ(Y, Z), differ(sym(5, X, Y), sym(5, A, A)), same(X, B), told(0),
                             same(Y, sym(4, Z)), told(1, 2))[-3:],
                         [answer([B]), [1], answer([sym(4, X), X])])

    def test_met_goes_by_what_is_told_the_same_alone(self):
        # In no way are X and Y the same; but it is a difference alone that says so.
        self.assertEqual(last(new(2), differ(X, Y), told(0, 1)), answer([X, Y], [(1, X)]))
        self.assertEqual(last(new(2), differ(sym(5, X, Y), sym(5, Y, A)), differ(X, Y), told(0, 1)),
                         answer([X, Y], [(1, X)]))

    def test_what_stays_its_own_value_is_no_condition(self):
        self.assertEqual(last(new(3), differ(sym(5, X, Z), sym(5, A, Z)), told(0)), answer([X], [(0, A)]))

    def test_conditions_outside_of_these_values(self):
        both = [new(2), differ(sym(5, X, Y), sym(5, A, A))]
        self.assertEqual(last(*both, told(0)), answer([X]))
        self.assertEqual(last(*both, told(1)), answer([X]))
        self.assertEqual(last(*both, told(1, 0)), answer([X, Y], [(1, A), (0, A)]))

    def test_a_value_with_variables_outside_of_these_values(self):
        one = [new(3), differ(X, sym(4, Z))]
        self.assertEqual(last(*one, told(0)), answer([X]))
        self.assertEqual(last(*one, told(2)), answer([X]))
        self.assertEqual(last(*one, told(0, 2)), answer([X, Y], [(0, sym(4, Y))]))
        self.assertEqual(last(new(2), differ(X, Y), told(0)), answer([X]))
        self.assertEqual(last(new(2), differ(X, Y), told(1)), answer([X]))

    def test_a_condition_that_has_become_so_is_none(self):
        self.assertEqual(last(new(2), differ(sym(5, X, Y), sym(5, A, A)), same(Y, A), told(0)),
                         answer([X], [(0, A)]))

    def test_variables_within_values_are_enough(self):
        self.assertEqual(last(new(4), same(X, sym(4, Z, W)), differ(Z, W), differ(Y, Z), told(0)),
                         answer([sym(4, X, Y)], [(1, X)]))

    def test_a_variable_that_is_bound_is_no_condition(self):
        self.assertEqual(last(new(3), same(X, sym(4, Y)), differ(X, sym(4, A)), told(0)),
                         answer([sym(4, X)], [(0, A)]))

    def test_the_least_variable_stands_for_those_that_are_the_same(self):
        self.assertEqual(last(new(4), same(W, Y), differ(W, A), told(3)), answer([X], [(0, A)]))
        self.assertEqual(last(new(4), same(W, Y), differ(W, Z), told(3, 2)), answer([X, Y], [(1, X)]))

    def test_conditions_have_values_by_all_of_them(self):
        self.assertEqual(last(new(2), differ(sym(5, X, Y), sym(5, sym(4, Y), A)), told(0, 1)),
                         answer([X, Y], [(0, sym(4, A)), (1, A)]))
        self.assertEqual(last(new(3), differ(sym(5, X, Y), sym(5, Y, Z)), told(0, 1, 2)),
                         answer([X, Y, Z], [(1, X), (2, X)]))
        self.assertEqual(last(new(3), differ(sym(5, Z, Y, X), sym(5, Y, X, A)), told(0, 1, 2)),
                         answer([X, Y, Z], [(0, A), (1, A), (2, A)]))

    def test_they_change_as_more_is_told_the_same(self):
        self.assertEqual(ask(new(4), differ(X, Y), same(X, sym(4, Z)), told(1, 2), same(Y, sym(4, W)), told(0, 3),
                             same(W, A), told(2), same(Z, B), told(0, 1)),
                         [[0], [1], [1], answer([X, Y], [(0, sym(4, Y))]), [1], answer([sym(4, X), Y], [(1, X)]),
                          [1], answer([X], [(0, A)]), [1], answer([sym(4, B), sym(4, A)])])

    def test_conditions_are_in_the_order_of_the_old_numbers(self):
        self.assertEqual(last(new(3), differ(sym(5, Z, X, Y), sym(5, A, B, A)), told(2, 1, 0)),
                         answer([X, Y, Z], [(2, B), (1, A), (0, A)]))

    def test_differences_are_in_the_order_in_which_they_were_told(self):
        self.assertEqual(last(new(3), differ(Z, A), differ(X, A), differ(Y, A), differ(X, B), told(0, 1, 2)),
                         answer([X, Y, Z], [(2, A)], [(0, A)], [(1, A)], [(0, B)]))

    def test_values_behind_differences_by_the_new_numbers(self):
        self.assertEqual(last(new(5), differ(W, sym(7, V, sym(5, X), V)), told(4, 3, 0)),
                         answer([X, Y, Z], [(1, sym(7, X, sym(5, Z), X))]))

    def test_30_differences(self):
        pairs = [differ(X, sym(symbol)) for symbol in range(30)]
        self.assertEqual(last(new(1), *pairs, told(0)), answer([X], *[[(0, sym(symbol))] for symbol in range(30)]))

    def test_it_tells_nothing_to_the_store(self):
        self.assertEqual(ask(new(3), differ(Z, Y), told(2, 1), told(2, 1), told(1, 2), value(sym(3, Y, Z))),
                         [[0], [1], answer([X, Y], [(0, Y)]), answer([X, Y], [(0, Y)]), answer([X, Y], [(1, X)]),
                          [0] + sym(3, Y, Z)])


class Following(unittest.TestCase):

    def test_one_that_follows_from_another(self):
        weak = differ(sym(5, X, Y), sym(5, A, A))
        strong = differ(X, A)
        self.assertEqual(last(new(2), weak, strong, told(0, 1)), answer([X, Y], [(0, A)]))
        self.assertEqual(last(new(2), strong, weak, told(0, 1)), answer([X, Y], [(0, A)]))

    def test_one_that_follows_over_several(self):
        three = differ(sym(5, X, Y, Z), sym(5, A, A, A))
        two = differ(sym(5, X, Y), sym(5, A, A))
        one = differ(X, A)
        for pairs in ([three, two, one], [one, two, three], [two, three, one], [two, one, three]):
            self.assertEqual(last(new(3), *pairs, told(0, 1, 2)), answer([X, Y, Z], [(0, A)]))

    def test_some_in_common_is_not_following(self):
        self.assertEqual(last(new(3), differ(sym(5, X, Y), sym(5, A, A)), differ(sym(5, Y, Z), sym(5, A, A)),
                              told(0, 1, 2)),
                         answer([X, Y, Z], [(0, A), (1, A)], [(1, A), (2, A)]))

    def test_following_by_what_two_conditions_are_together(self):
        # Were both A, they'd be the same: so that they differ says that not both are A.
        self.assertEqual(last(new(2), differ(sym(5, X, Y), sym(5, A, A)), differ(X, Y), told(0, 1)),
                         answer([X, Y], [(1, X)]))
        self.assertEqual(last(new(2), differ(sym(5, X, Y), sym(5, A, B)), differ(X, Y), told(0, 1)),
                         answer([X, Y], [(0, A), (1, B)], [(1, X)]))

    def test_following_by_parts(self):
        self.assertEqual(last(new(3), differ(sym(5, X, Y), sym(5, sym(4, Z), sym(4, Z))), differ(X, Y), told(0, 1, 2)),
                         answer([X, Y, Z], [(1, X)]))
        self.assertEqual(last(new(3), differ(X, sym(4, A)), differ(sym(5, X, Z), sym(5, sym(4, Z), A)), told(0, 2)),
                         answer([X, Y], [(0, sym(4, A))]))

    def test_each_from_the_other_the_one_told_first_is_left(self):
        self.assertEqual(last(new(3), differ(X, Y), differ(Z, A), differ(sym(4, Y), sym(4, X)), told(0, 1, 2)),
                         answer([X, Y, Z], [(1, X)], [(2, A)]))
        self.assertEqual(last(new(3), differ(Z, A), differ(sym(4, Y), sym(4, X)), differ(X, Y), differ(X, Y),
                              differ(Z, A), told(0, 1, 2)),
                         answer([X, Y, Z], [(2, A)], [(1, X)]))

    def test_each_from_the_other_and_both_from_a_third(self):
        weak = differ(sym(5, X, Y), sym(5, A, A))
        self.assertEqual(last(new(2), weak, weak, differ(Y, A), told(0, 1)), answer([X, Y], [(1, A)]))
        self.assertEqual(last(new(2), differ(Y, A), weak, weak, told(0, 1)), answer([X, Y], [(1, A)]))

    def test_each_from_the_other_by_what_is_told_the_same(self):
        self.assertEqual(ask(new(3), differ(X, A), differ(Z, B), differ(Y, A), told(0, 1, 2), same(X, Y), told(0, 2, 1)),
                         [[0], [1], [1], [1], answer([X, Y, Z], [(0, A)], [(2, B)], [(1, A)]), [1],
                          answer([X, Y, X], [(0, A)], [(1, B)])])
        self.assertEqual(last(new(2), differ(Y, sym(4, A)), differ(X, A), same(Y, sym(4, X)), told(0)),
                         answer([X], [(0, A)]))

    def test_from_what_is_met_nothing_follows(self):
        self.assertEqual(last(new(2), differ(sym(5, X, Y), sym(5, A, A)), differ(X, A), differ(Y, B), same(Y, sym(4, X)),
                              told(0)), answer([X], [(0, A)]))


class Refusals(unittest.TestCase):

    # Variable 3 has a value of size 31, of variable 2; sixteen of it below five symbols make 501.
    LONG = [new(5), same(W, chain(6, 30, Z))]
    LONGEST = sym(8, *[sym(5, W, W, W, W)] * 4)
    # One less: sixteen parts, of which the last is one shorter.
    SHORT = [new(6), same(W, chain(6, 30, Z)), same(var(5), chain(6, 29, Z))]
    SHORTER = sym(8, *[sym(5, W, W, W, W)] * 3, sym(5, W, W, W, var(5)))

    def test_a_variable_that_is_not_there(self):
        self.assertEqual(ask(told(0), new(2), told(2), told(0, 1, 2), told(1000, 0), told(0, 1)),
                         [[-2], [0], [-2], [-2], [-2], answer([X, Y])])

    def test_a_value_above_500(self):
        self.assertEqual(ask(*self.LONG, same(X, self.LONGEST), told(0), told(1, 0, 1), told(1))[-3:],
                         [[-5], [-5], answer([X])])

    def test_a_value_of_500(self):
        given = last(*self.SHORT, same(X, self.SHORTER), told(0))
        self.assertEqual((given[0], given[-1], len(given)), (0, 0, 1 + 2 * 500 + 1))

    def test_a_condition_s_value_above_500(self):
        self.assertEqual(last(*self.LONG, differ(X, self.LONGEST), told(0, 2)), [-5])

    def test_a_condition_s_value_of_500(self):
        given = last(*self.SHORT, differ(X, self.SHORTER), told(2, 0))
        self.assertEqual(given[:8], [0, 0, 0, 0, 1, 1, 1, 1])
        self.assertEqual(len(given), 8 + 2 * 500)

    def test_a_condition_s_value_that_is_only_large_by_the_other_conditions(self):
        large = sym(8, *[sym(5, Y, Y, Y, Y)] * 4)
        self.assertEqual(last(*self.LONG, differ(sym(9, X, Y), sym(9, large, W)), told(0)), [-5])
        self.assertEqual(last(*self.LONG, differ(X, large), told(0, 1)),
                         answer([X, Y], [(0, large)]))

    def test_a_difference_that_is_outside_of_these_values(self):
        self.assertEqual(ask(*self.LONG, differ(X, self.LONGEST), told(), told(1), told(0))[-3:], [[-5], [-5], [-5]])

    def test_a_difference_that_follows_from_another(self):
        weak = differ(sym(9, X, Y), sym(9, self.LONGEST, A))
        self.assertEqual(last(*self.LONG, weak, differ(Y, A), told(0, 1, 2)), [-5])

    def test_a_difference_that_is_met(self):
        self.assertEqual(ask(*self.LONG, differ(X, self.LONGEST), same(X, A), told(0))[-1], answer([A]))
        self.assertEqual(last(*self.LONG, differ(A, self.LONGEST), told(0)), answer([X]))

    def test_a_large_value_on_both_sides_is_in_no_condition(self):
        self.assertEqual(last(*self.LONG, differ(sym(9, X, self.LONGEST), sym(9, A, self.LONGEST)), told(0)),
                         answer([X], [(0, A)]))

    def test_a_missing_variable_goes_ahead_of_the_size(self):
        self.assertEqual(last(*self.LONG, same(X, self.LONGEST), told(0, 5)), [-2])

    def test_all_is_as_it_was_after_a_refusal(self):
        self.assertEqual(ask(*self.LONG, differ(Y, self.LONGEST), told(1), told(7), same(Y, A), told(1, 0))[-4:],
                         [[-5], [-2], [1], answer([A, X])])


if __name__ == "__main__":
    unittest.main()
