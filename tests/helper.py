"""Ways to write calls down and to take answers apart, for all tests."""

from termsthatwait.store import answers


def var(number):
    return [0, number]


def sym(symbol, *arguments):
    row = [len(arguments) + 1, symbol]
    for argument in arguments:
        row.extend(argument)
    return row


def chain(symbol, depth, end):
    """The symbol around itself, so many times, around the end."""
    return [2, symbol] * depth + end


def call(number, wholes, rows):
    written = [number] + wholes
    for row in rows:
        written.append(len(row))
        written.extend(row)
    return written


def new(k):
    return call(0, [k], [])


def same(t, u):
    return call(1, [], [t, u])


def differ(t, u):
    return call(2, [], [t, u])


def when_bound(goal, t):
    return call(3, [goal], [t])


def when_whole(goal, t):
    return call(4, [goal], [t])


def when_sure(goal, t, u):
    return call(5, [goal], [t, u])


def value(t):
    return call(6, [], [t])


def relation(t, u):
    return call(7, [], [t, u])


def told(*variables):
    return call(8, [], [list(variables)])


def waiting():
    return call(9, [], [])


def mark():
    return call(10, [], [])


def back(number):
    return call(11, [number], [])


def cut(number):
    return call(12, [number], [])


def taken_apart(given):
    """The answers, each a list of its own."""
    apart = []
    place = 0
    while place < len(given):
        end = place + 1 + given[place]
        if end > len(given):
            raise AssertionError("an answer is shorter than it says")
        apart.append(given[place + 1:end])
        place = end
    return apart


def ask(*calls):
    """The answers to these calls on one store, each a list."""
    line = []
    for written in calls:
        line.extend(written)
    apart = taken_apart(answers(line))
    if len(apart) != len(calls):
        raise AssertionError("not one answer for each call")
    return apart


def last(*calls):
    """The answer to the last of these calls."""
    return ask(*calls)[-1]


A = sym(1)
B = sym(2)
X = var(0)
Y = var(1)
Z = var(2)
W = var(3)
