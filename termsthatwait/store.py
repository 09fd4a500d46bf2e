"""The store of what is told the same and told different, and of the goals that wait."""

from termsthatwait.calls import DIFFER, NEW, SAME, VALUE, WHEN_BOUND, WHEN_WHOLE, read_call
from termsthatwait.graph import Graph
from termsthatwait.survey import Survey

MOST_NEW = 20
MOST_VARIABLES = 80
MOST_DIFFERENCES = 30
MOST_GOALS = 30

WRONG_COUNT = -1
NOT_THERE = -2
TOO_LARGE = -5
TOO_MANY = -8

# What a goal waits for.
BOUND = 0
WHOLE = 1
SURE = 2


class Goal:
    """A goal that waits: its number, for what it waits, and of which terms."""

    def __init__(self, number, kind, terms):
        self.number = number
        self.kind = kind
        self.terms = terms


class Store:
    """Variables, what is told of terms, and the goals that wait; terms are nodes of one graph.

    There are so many whole terms that a difference can be kept to in some way
    unless its two terms are surely the same, whatever else is told different.
    So what is told the same alone decides which terms are surely the same,
    and which variables are bound.
    """

    def __init__(self):
        self.graph = Graph()
        self.survey = Survey(self.graph)
        self.variables = []
        self.differences = []
        self.goals = []

    def answer(self, call):
        """What is answered to a call, number by number."""
        if any([self.lacks_variable(row) for row in call.rows]):
            return [NOT_THERE]
        terms = [self.graph.add_row(row, self.variables) for row in call.rows]
        if call.which == NEW:
            return self.new(call.numbers[0])
        if call.which == SAME:
            return self.same(terms[0], terms[1])
        if call.which == DIFFER:
            return self.differ(terms[0], terms[1])
        if call.which == VALUE:
            return self.value(terms[0])
        if call.which == WHEN_BOUND:
            return self.when(Goal(call.numbers[0], BOUND, terms))
        if call.which == WHEN_WHOLE:
            return self.when(Goal(call.numbers[0], WHOLE, terms))
        return self.when(Goal(call.numbers[0], SURE, terms))

    def lacks_variable(self, row):
        """Whether a row has a variable that isn't there."""
        count = len(self.variables)
        return any([row[place] == 0 and row[place + 1] >= count for place in range(0, len(row), 2)])

    def new(self, count):
        """More variables; the first one's number is answered."""
        if count < 1 or count > MOST_NEW:
            return [WRONG_COUNT]
        first = len(self.variables)
        if first + count > MOST_VARIABLES:
            return [TOO_MANY]
        for number in range(first, first + count):
            self.variables.append(self.graph.add_node(number, None))
        return [first]

    def same(self, one, other):
        """Tell two terms the same, if they can be."""
        survey = self.survey_if_same(one, other)
        if survey is None:
            return [0]
        self.graph = survey.graph
        self.survey = survey
        return [1] + self.wake()

    def differ(self, one, other):
        """Tell two terms different, if they can be."""
        if len(self.differences) == MOST_DIFFERENCES:
            return [TOO_MANY]
        if self.survey.are_same(one, other):
            return [0]
        self.differences.append((one, other))
        return [1] + self.wake()

    def when(self, goal):
        """Let a goal wait, unless what it would wait for is so already."""
        if len(self.goals) == MOST_GOALS:
            return [TOO_MANY]
        if self.is_so(goal):
            return [1]
        self.goals.append(goal)
        return [0]

    def value(self, term):
        """The row of a term's value."""
        if self.survey.is_too_large(term):
            return [TOO_LARGE]
        return [0] + self.survey.row(term)

    def survey_if_same(self, one, other):
        """How all would be, were two terms told the same; None if there's no way then."""
        trial = self.graph.trial()
        if not trial.merge(one, other):
            return None
        survey = Survey(trial)
        # What has become a part of itself stands in these two, so they alone are asked.
        if survey.shape(one) is None:
            return None
        if any([survey.are_same(pair[0], pair[1]) for pair in self.differences]):
            return None
        return survey

    def is_sure(self, one, other):
        """Whether two terms are surely the same or surely different."""
        return self.survey.are_same(one, other) or self.survey_if_same(one, other) is None

    def is_so(self, goal):
        """Whether what a goal waits for is so."""
        if goal.kind == BOUND:
            return not self.graph.is_free(goal.terms[0])
        if goal.kind == WHOLE:
            return self.survey.is_whole(goal.terms[0])
        return self.is_sure(goal.terms[0], goal.terms[1])

    def wake(self):
        """The numbers of the goals that wake now; they don't wait any more."""
        woken = []
        waiting = []
        for goal in self.goals:
            if self.is_so(goal):
                woken.append(goal.number)
            else:
                waiting.append(goal)
        self.goals = waiting
        return woken


def answers(calls):
    """The answers to all calls in order, each with how many numbers it has before it."""
    store = Store()
    given = []
    place = 0
    while place < len(calls):
        call = read_call(calls, place)
        answer = store.answer(call)
        given.append(len(answer))
        given.extend(answer)
        place = call.end
    return given
