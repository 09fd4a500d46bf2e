"""The store of what is told the same and told different, and of the goals that wait."""

from termsthatwait.calls import (BACK, CUT, DIFFER, MARK, NEW, RELATION, SAME, TOLD, VALUE, WAITING,
                                 WHEN_BOUND, WHEN_WHOLE, handed_variables, read_call)
from termsthatwait.terms import Terms
from termsthatwait.told import told_numbers
from termsthatwait.trial import Pair

MOST_NEW = 20
MOST_VARIABLES = 80
MOST_DIFFERENCES = 30
MOST_GOALS = 30
MOST_MARKS = 30

WRONG_COUNT = -1
NOT_THERE = -2
TOO_LARGE = -5
TOO_MANY = -8

# What a goal waits for.
BOUND = 0
WHOLE = 1
SURE = 2

# How two terms stand to each other.
UNSURE = 0
SURELY_SAME = 1
SURELY_DIFFERENT = 2


class Goal:
    """A goal that waits: its number, for what it waits, and of which values.

    A goal that waits for something of one value has it on both sides of its pair.
    """

    def __init__(self, number, kind, pair):
        self.number = number
        self.kind = kind
        self.pair = pair


class Mark:
    """All as it was when the mark was made."""

    def __init__(self, found, differences, goals):
        self.found = list(found)
        self.differences = list(differences)
        self.goals = list(goals)


class Store:
    """What is found for each variable, which is its value; differences, goals that wait, and marks.

    There are so many whole terms that a difference can be kept to in some way
    unless its two terms are surely the same, whatever else is told different.
    So what is told the same alone decides which terms are surely the same,
    and which variables are bound. Of terms just the values are kept.
    """

    def __init__(self):
        self.terms = Terms()
        self.found = []
        self.differences = []
        self.goals = []
        self.marks = []

    def answer(self, call):
        """What is answered to a call, number by number."""
        if any([number >= len(self.found) for number in handed_variables(call)]):
            return [NOT_THERE]
        if call.which == TOLD:
            return self.told(call.rows[0])
        if call.rows:
            values = [self.terms.read_row(row, self.found) for row in call.rows]
            return self.answer_of_terms(call, Pair(self.terms, values[0], values[-1]))
        return self.answer_of_numbers(call)

    def answer_of_terms(self, call, pair):
        """What is answered to a call with one or two terms, of which the pair has the values."""
        if call.which == SAME:
            return self.same(pair)
        if call.which == DIFFER:
            return self.differ(pair)
        if call.which == VALUE:
            return self.value(pair.one)
        if call.which == RELATION:
            return [self.relation(pair)]
        if call.which == WHEN_BOUND:
            return self.when(Goal(call.numbers[0], BOUND, pair))
        if call.which == WHEN_WHOLE:
            return self.when(Goal(call.numbers[0], WHOLE, pair))
        return self.when(Goal(call.numbers[0], SURE, pair))

    def answer_of_numbers(self, call):
        """What is answered to a call without terms and variables."""
        if call.which == NEW:
            return self.new(call.numbers[0])
        if call.which == WAITING:
            return self.waiting()
        if call.which == MARK:
            return self.mark()
        if call.numbers[0] < 1 or call.numbers[0] > len(self.marks):
            return [NOT_THERE]
        if call.which == BACK:
            return self.back(call.numbers[0])
        return self.cut(call.numbers[0])

    def new(self, count):
        """More variables; the first one's number is answered."""
        if count < 1 or count > MOST_NEW:
            return [WRONG_COUNT]
        first = len(self.found)
        if first + count > MOST_VARIABLES:
            return [TOO_MANY]
        for number in range(first, first + count):
            self.found.append(self.terms.variable(number))
        return [first]

    def same(self, pair):
        """Tell two terms the same, if they can be."""
        if self.relation(pair) == SURELY_DIFFERENT:
            return [0]
        trial = pair.trial
        self.found = [trial.value(term) for term in self.found]
        self.differences = [apart.after(trial) for apart in self.differences]
        self.goals = [Goal(goal.number, goal.kind, goal.pair.after(trial)) for goal in self.goals]
        return [1] + self.wake()

    def differ(self, pair):
        """Tell two terms different, if they can be."""
        if len(self.differences) == MOST_DIFFERENCES:
            return [TOO_MANY]
        if pair.one == pair.other:
            return [0]
        self.differences.append(pair)
        return [1] + self.wake()

    def when(self, goal):
        """Let a goal wait, unless what it would wait for is so already."""
        if len(self.goals) == MOST_GOALS:
            return [TOO_MANY]
        if self.is_so(goal):
            return [1]
        self.goals.append(goal)
        return [0]

    def value(self, term):
        """The row of a value."""
        if self.terms.is_too_large(term):
            return [TOO_LARGE]
        return [0] + self.terms.row(term)

    def relation(self, pair):
        """How two terms stand to each other in all ways."""
        if pair.one == pair.other:
            return SURELY_SAME
        if pair.trial is None:
            return SURELY_DIFFERENT
        # Were they the same, two that are told different would be, too.
        for trial in self.open_differences():
            if pair.trial.implies(trial):
                return SURELY_DIFFERENT
        return UNSURE

    def told(self, numbers):
        """The values of variables, and the differences that are left of them."""
        shown = [self.found[number] for number in numbers]
        answer = told_numbers(self.terms, shown, self.open_differences())
        if answer is None:
            return [TOO_LARGE]
        return answer

    def waiting(self):
        """The goals that wait, each with what it waits for."""
        answer = [len(self.goals)]
        for goal in self.goals:
            answer.extend([goal.number, goal.kind])
        return answer

    def mark(self):
        """A mark more; how many there are is answered."""
        if len(self.marks) == MOST_MARKS:
            return [TOO_MANY]
        self.marks.append(Mark(self.found, self.differences, self.goals))
        return [len(self.marks)]

    def back(self, number):
        """All as it was when a mark was made; how many variables there are is answered."""
        mark = self.marks[number - 1]
        self.marks = self.marks[:number]
        # The mark stays, so what it holds is copied.
        self.found = list(mark.found)
        self.differences = list(mark.differences)
        self.goals = list(mark.goals)
        return [len(self.found)]

    def cut(self, number):
        """A mark and later ones are gone; how many are left is answered."""
        self.marks = self.marks[:number - 1]
        return [len(self.marks)]

    def open_differences(self):
        """The trials of the differences that are not met, in the order in which they were told."""
        return [pair.trial for pair in self.differences if pair.trial is not None]

    def is_so(self, goal):
        """Whether what a goal waits for is so."""
        if goal.kind == BOUND:
            return not self.terms.is_variable(goal.pair.one)
        if goal.kind == WHOLE:
            return self.terms.is_whole(goal.pair.one)
        return self.relation(goal.pair) != UNSURE

    def wake(self):
        """The numbers of the goals that wake now; they don't wait any more."""
        woken = []
        waiting = []
        for goal in self.goals:
            if self.is_so(goal):
                woken.append(goal.number)
            else:
                waiting.append(goal)
        self.goals = waiting
        return woken


def answers(calls):
    """The answers to all calls in order, each with how many numbers it has before it."""
    store = Store()
    given = []
    place = 0
    while place < len(calls):
        call = read_call(calls, place)
        answer = store.answer(call)
        given.append(len(answer))
        given.extend(answer)
        place = call.end
    return given
