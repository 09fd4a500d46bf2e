"""Random lines of calls, answered a second time by plain rules on whole terms, without any sharing."""

import random
import unittest

from tests import helper

LINES = 2500


def row_of(term):
    return helper.var(term) if isinstance(term, int) else helper.sym(term[0], *[row_of(part) for part in term[1:]])


def applied(bound, term):
    if isinstance(term, int):
        return applied(bound, bound[term]) if term in bound else term
    return (term[0],) + tuple([applied(bound, part) for part in term[1:]])


def variables_of(term):
    if isinstance(term, int):
        return {term}
    return set().union(*[variables_of(part) for part in term[1:]])


def unified(bound, t, u):
    """What is bound when t and u are the same too; None if they can't be."""
    t = applied(bound, t)
    u = applied(bound, u)
    if t == u:
        return bound
    if isinstance(t, int) and isinstance(u, int):
        return {**bound, max(t, u): min(t, u)}
    if isinstance(u, int):
        t, u = u, t
    if isinstance(t, int):
        return None if t in variables_of(u) else {**bound, t: u}
    if t[0] != u[0] or len(t) != len(u):
        return None
    for one, other in zip(t[1:], u[1:]):
        bound = unified(bound, one, other)
        if bound is None:
            return None
    return bound


def size_of(term):
    return 1 if isinstance(term, int) else 1 + sum(size_of(part) for part in term[1:])


class Plain:
    """The store by the words of the document, with every value written out."""

    def __init__(self):
        self.count = 0
        self.bound = {}
        self.different = []
        self.goals = []

    def allowed(self, t, u):
        bound = unified(self.bound, t, u)
        if bound is None or any(applied(bound, a) == applied(bound, b) for a, b in self.different):
            return None
        return bound

    def is_so(self, kind, terms):
        values = [applied(self.bound, term) for term in terms]
        if kind == 3:
            return not isinstance(values[0], int)
        if kind == 4:
            return not variables_of(values[0])
        return values[0] == values[1] or self.allowed(*terms) is None

    def woken(self):
        so = [self.is_so(kind, terms) for goal, kind, terms in self.goals]
        woken = [entry[0] for entry, now in zip(self.goals, so) if now]
        self.goals = [entry for entry, now in zip(self.goals, so) if not now]
        return [1] + woken

    def answer(self, which, whole, terms):
        if any(number >= self.count for term in terms for number in variables_of(term)):
            return [-2]
        if which == 0:
            return self.new(whole)
        if which == 1:
            bound = self.allowed(*terms)
            if bound is None:
                return [0]
            self.bound = bound
            return self.woken()
        if which == 2:
            return self.differ(*terms)
        if which == 6:
            term = applied(self.bound, terms[0])
            return [-5] if size_of(term) > 500 else [0] + row_of(term)
        if len(self.goals) == 30:
            return [-8]
        if self.is_so(which, terms):
            return [1]
        self.goals.append((whole, which, terms))
        return [0]

    def new(self, k):
        if not 1 <= k <= 20:
            return [-1]
        if self.count + k > 80:
            return [-8]
        self.count += k
        return [self.count - k]

    def differ(self, t, u):
        if len(self.different) == 30:
            return [-8]
        if applied(self.bound, t) == applied(self.bound, u):
            return [0]
        self.different.append((t, u))
        return self.woken()


def random_term(chance, variables, depth):
    if chance.random() < 0.5 or depth == 0:
        return chance.randrange(variables) if chance.random() < 0.75 else (chance.randrange(2),)
    return (chance.randrange(2),) + tuple([random_term(chance, variables, depth - 1)
                                           for turn in range(chance.choice([1, 1, 2, 2, 3, 4]))])


def random_calls(chance):
    """Calls with few variables and few symbols, so that much meets."""
    variables = chance.choice([2, 3, 5, 8, 16])
    weights = chance.choice([[3, 2, 1, 1, 2, 2], [2, 5, 0, 0, 3, 1], [5, 1, 2, 2, 2, 2], [1, 9, 1, 1, 9, 1],
                             [0, 1, 9, 9, 9, 1]])
    calls = [(0, variables, [])]
    for turn in range(chance.choice([5, 15, 25, 59])):
        which = chance.choices([1, 2, 3, 4, 5, 6], weights)[0]
        if chance.random() < 0.03:
            calls.append((0, chance.choice([0, 1, 1, 20, 20, 21]), []))
            continue
        known = variables + (chance.random() < 0.05)
        depth = chance.choice([0, 1, 1, 2])
        terms = [random_term(chance, known, depth) for turn in range(2 if which in (1, 2, 5) else 1)]
        calls.append((which, chance.randrange(10000), terms))
    return calls


class AgainstPlain(unittest.TestCase):

    def test_random_lines(self):
        chance = random.Random(20)
        seen = {}
        for turn in range(LINES):
            calls = random_calls(chance)
            plain = Plain()
            wanted = [plain.answer(*given) for given in calls]
            written = [helper.call(which, [whole] if which in (0, 3, 4, 5) else [], [row_of(term) for term in terms])
                       for which, whole, terms in calls]
            self.assertEqual(helper.ask(*written), wanted, calls)
            for given, answer in zip(calls, wanted):
                seen[given[0], answer[0], len(answer) > 1] = True
        # Lines that never meet a kind of answer would tell nothing of it.
        for kind in [(1, 0, False), (1, 1, True), (2, 0, False), (2, 1, True), (2, -8, False), (5, -8, False),
                     (3, 1, False), (4, 1, False), (5, 0, False), (5, 1, False), (6, -2, False)]:
            self.assertIn(kind, seen)


if __name__ == "__main__":
    unittest.main()
