"""What is answered, held against the ways themselves: whole terms given to each of three variables.

Of whole terms just some are tried: three symbols alone, and below a fourth one
up to six deep. That is enough for terms as small, and for differences as few,
as are told here.
"""

import itertools
import random
import unittest

from tests import helper

LINES = 60
WHOLE = [(0,) * depth + (end,) for depth in range(7) for end in (1, 2, 3)]
WAYS = list(itertools.product(WHOLE, repeat=3))


def random_side(chance):
    """Symbol 4 at most once around a variable, or around symbol 1 or 2."""
    end = chance.choice([("variable", 0), ("variable", 1), ("variable", 2), ("symbol", 1), ("symbol", 2)])
    return (chance.choice([0, 0, 1]), end)


def row_of(side):
    kind, number = side[1]
    return helper.chain(4, side[0], helper.var(number) if kind == "variable" else helper.sym(number))


def pair_of(sides):
    return [helper.sym(5, *[row_of(side[0]) for side in sides]), helper.sym(5, *[row_of(side[1]) for side in sides])]


def given(way, side):
    kind, number = side[1]
    return (0,) * side[0] + (way[number] if kind == "variable" else (number,))


def is_same(way, sides):
    return all(given(way, one) == given(way, other) for one, other in sides)


def random_sides(chance):
    return [(random_side(chance), random_side(chance)) for turn in range(chance.choice([1, 1, 2]))]


class Ways(unittest.TestCase):

    def check(self, chance):
        """One line, built call by call; ways has all that are left."""
        calls = [helper.new(3)]
        ways = WAYS
        seen = []
        for turn in range(6):
            sides = random_sides(chance)
            both = [way for way in ways if is_same(way, sides)]
            relation = 1 if len(both) == len(ways) else (0 if both else 2)
            self.assertEqual(helper.last(*calls, helper.relation(*pair_of(sides))), [relation])
            seen.append(relation)
            if chance.random() < 0.4:
                calls.append(helper.same(*pair_of(sides)))
                self.assertEqual(helper.last(*calls), [1 if both else 0])
                ways = both or ways
            else:
                calls.append(helper.differ(*pair_of(sides)))
                apart = [way for way in ways if not is_same(way, sides)]
                self.assertEqual(helper.last(*calls), [1 if apart else 0])
                ways = apart or ways
            self.check_variables(calls, ways)
        return seen

    def check_variables(self, calls, ways):
        for number in range(3):
            outermost = {(way[number][0], len(way[number]) > 1) for way in ways}
            bound = helper.last(*calls, helper.when_bound(7, helper.var(number)))
            self.assertEqual(bound, [1 if len(outermost) == 1 else 0])
            whole = helper.last(*calls, helper.when_whole(7, helper.var(number)))
            self.assertEqual(whole, [1 if len({way[number] for way in ways}) == 1 else 0])

    def test_random_lines(self):
        chance = random.Random(5)
        seen = []
        for turn in range(LINES):
            seen.extend(self.check(chance))
        self.assertEqual(set(seen), {0, 1, 2})


if __name__ == "__main__":
    unittest.main()
