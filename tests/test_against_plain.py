"""Random lines of calls, answered a second time by plain rules on whole terms, without any sharing."""

import random
import unittest

from tests import helper

LINES = 4000


def row_of(term):
    return helper.var(term) if isinstance(term, int) else helper.sym(term[0], *[row_of(part) for part in term[1:]])


def applied(bound, term):
    if isinstance(term, int):
        return applied(bound, bound[term]) if term in bound else term
    return (term[0],) + tuple([applied(bound, part) for part in term[1:]])


def variables_of(term):
    if isinstance(term, int):
        return {term}
    return set().union(*[variables_of(part) for part in term[1:]])


def unified(bound, t, u):
    """What is bound when t and u are the same too; None if they can't be."""
    t = applied(bound, t)
    u = applied(bound, u)
    if t == u:
        return bound
    if isinstance(t, int) and isinstance(u, int):
        return {**bound, max(t, u): min(t, u)}
    if isinstance(u, int):
        t, u = u, t
    if isinstance(t, int):
        return None if t in variables_of(u) else {**bound, t: u}
    if t[0] != u[0] or len(t) != len(u):
        return None
    for one, other in zip(t[1:], u[1:]):
        bound = unified(bound, one, other)
        if bound is None:
            return None
    return bound


def in_order(term):
    return [term] if isinstance(term, int) else [number for part in term[1:] for number in in_order(part)]


def renamed(names, term):
    if isinstance(term, int):
        return names[term]
    return (term[0],) + tuple([renamed(names, part) for part in term[1:]])


def size_of(term):
    return 1 if isinstance(term, int) else 1 + sum(size_of(part) for part in term[1:])


class Plain:
    """The store by the words of the document, with every value written out."""

    def __init__(self):
        self.count = 0
        self.bound = {}
        self.different = []
        self.goals = []
        self.marks = []

    def allowed(self, t, u):
        bound = unified(self.bound, t, u)
        if bound is None or any(applied(bound, a) == applied(bound, b) for a, b in self.different):
            return None
        return bound

    def is_so(self, kind, terms):
        values = [applied(self.bound, term) for term in terms]
        if kind == 3:
            return not isinstance(values[0], int)
        if kind == 4:
            return not variables_of(values[0])
        return values[0] == values[1] or self.allowed(*terms) is None

    def woken(self):
        so = [self.is_so(kind, terms) for goal, kind, terms in self.goals]
        woken = [entry[0] for entry, now in zip(self.goals, so) if now]
        self.goals = [entry for entry, now in zip(self.goals, so) if not now]
        return [1] + woken

    def answer(self, which, whole, terms):
        if any(number >= self.count for term in terms for number in variables_of(term)):
            return [-2]
        if which > 6:
            return self.later_answer(which, whole, terms)
        if which == 0:
            return self.new(whole)
        if which == 1:
            bound = self.allowed(*terms)
            if bound is None:
                return [0]
            self.bound = bound
            return self.woken()
        if which == 2:
            return self.differ(*terms)
        if which == 6:
            term = applied(self.bound, terms[0])
            return [-5] if size_of(term) > 500 else [0] + row_of(term)
        if len(self.goals) == 30:
            return [-8]
        if self.is_so(which, terms):
            return [1]
        self.goals.append((whole, which, terms))
        return [0]

    def later_answer(self, which, whole, terms):
        if which == 7:
            if applied(self.bound, terms[0]) == applied(self.bound, terms[1]):
                return [1]
            return [2 if self.allowed(*terms) is None else 0]
        if which == 8:
            return self.told(terms)
        if which == 9:
            return [len(self.goals)] + [number for goal, kind, about in self.goals for number in (goal, kind - 3)]
        if which == 10:
            if len(self.marks) == 30:
                return [-8]
            self.marks.append((self.count, self.bound, list(self.different), list(self.goals)))
            return [len(self.marks)]
        if not 1 <= whole <= len(self.marks):
            return [-2]
        if which == 12:
            self.marks = self.marks[:whole - 1]
            return [len(self.marks)]
        self.marks = self.marks[:whole]
        self.count, self.bound, different, goals = self.marks[-1]
        self.different = list(different)
        self.goals = list(goals)
        return [self.count]

    def conditions(self, bound):
        own = [number for number in range(self.count) if applied(self.bound, number) == number]
        return [(number, applied(bound, number)) for number in own if applied(bound, number) != number]

    def told(self, variables):
        shown = [applied(self.bound, number) for number in variables]
        unmet = [(unified(self.bound, *pair), pair) for pair in self.different
                 if unified(self.bound, *pair) is not None]
        sides = [term for bound, pair in unmet for number, term in self.conditions(bound)]
        if any(size_of(term) > 500 for term in shown + sides):
            return [-5]
        seen = set().union(*[variables_of(term) for term in shown])
        of_these = [(bound, pair) for bound, pair in unmet
                    if all({number} | variables_of(term) <= seen for number, term in self.conditions(bound))]
        follows = [[applied(bound, pair[0]) == applied(bound, pair[1]) for other, pair in of_these]
                   for bound, own in of_these]
        places = range(len(of_these))
        left = [of_these[i][0] for i in places
                if not any(i != j and follows[i][j] and (j < i or not follows[j][i]) for j in places)]
        return self.told_row(shown, left)

    def told_row(self, shown, left):
        names = {}
        given = [0]
        for term in shown:
            for number in in_order(term):
                names.setdefault(number, len(names))
            given += row_of(renamed(names, term))
        given.append(len(left))
        for bound in left:
            given.append(len(self.conditions(bound)))
            for number, term in self.conditions(bound):
                given += [names[number]] + row_of(renamed(names, term))
        return given

    def new(self, k):
        if not 1 <= k <= 20:
            return [-1]
        if self.count + k > 80:
            return [-8]
        self.count += k
        return [self.count - k]

    def differ(self, t, u):
        if len(self.different) == 30:
            return [-8]
        if applied(self.bound, t) == applied(self.bound, u):
            return [0]
        self.different.append((t, u))
        return self.woken()


def random_term(chance, variables, depth):
    if chance.random() < 0.5 or depth == 0:
        return chance.randrange(variables) if chance.random() < 0.75 else (chance.randrange(2),)
    return (chance.randrange(2),) + tuple([random_term(chance, variables, depth - 1)
                                           for turn in range(chance.choice([1, 1, 2, 2, 3, 4]))])


def written(which, whole, terms):
    wholes = [whole] if which in (0, 3, 4, 5, 11, 12) else []
    if which == 8:
        return helper.call(8, [], [terms])
    return helper.call(which, wholes, [row_of(term) for term in terms])


def random_calls(chance):
    """Calls with few variables and few symbols, so that much meets."""
    variables = chance.choice([2, 3, 5, 8, 16])
    weights = chance.choice([[3, 2, 1, 1, 2, 2, 1, 1, 1, 1, 1, 0], [2, 5, 0, 0, 3, 1, 2, 3, 0, 1, 1, 1],
                             [5, 1, 2, 2, 2, 2, 1, 1, 1, 2, 2, 1], [1, 20, 1, 1, 5, 1, 1, 1, 1, 1, 0, 0],
                             [0, 1, 9, 9, 9, 1, 0, 0, 1, 1, 0, 0], [2, 6, 0, 0, 0, 1, 2, 9, 0, 1, 1, 0],
                             [2, 2, 1, 1, 1, 1, 1, 1, 1, 30, 2, 1]])
    calls = [(0, variables, [])]
    for turn in range(chance.choice([5, 15, 25, 59])):
        which = chance.choices(range(1, 13), weights)[0]
        if chance.random() < 0.03:
            calls.append((0, chance.choice([0, 1, 1, 20, 20, 21]), []))
            continue
        if which > 8:
            calls.append((which, chance.choice([0, 1, 1, 1, 2, 2, 3, 4, 5, 31]), []))
            continue
        known = variables + (chance.random() < 0.05)
        if which == 8:
            calls.append((8, 0, [chance.randrange(known) for turn in range(chance.choice([0, 1, 2, 3, 5, 10, 20]))]))
            continue
        depth = chance.choice([0, 1, 1, 2])
        terms = [random_term(chance, known, depth) for turn in range(2 if which in (1, 2, 5, 7) else 1)]
        calls.append((which, chance.randrange(10000), terms))
    return calls


class AgainstPlain(unittest.TestCase):

    def test_random_lines(self):
        chance = random.Random(20)
        seen = {}
        for turn in range(LINES):
            calls = random_calls(chance)
            plain = Plain()
            wanted = [plain.answer(*given) for given in calls]
            self.assertEqual(helper.ask(*[written(*given) for given in calls]), wanted, calls)
            for given, answer in zip(calls, wanted):
                seen[given[0], answer[0], len(answer) > 1] = True
        # Lines that never meet a kind of answer would tell nothing of it.
        for kind in [(1, 0, False), (1, 1, True), (2, 0, False), (2, 1, True), (2, -8, False), (5, -8, False),
                     (3, 1, False), (4, 1, False), (5, 0, False), (5, 1, False), (6, -2, False),
                     (7, 0, False), (7, 1, False), (7, 2, False), (8, 0, True), (8, -2, False), (9, 2, True),
                     (10, -8, False), (11, -2, False), (11, 8, False), (12, -2, False), (12, 0, False)]:
            self.assertIn(kind, seen)


if __name__ == "__main__":
    unittest.main()
