"""How the tests write calls and read answers."""

from impliedparts.instances import answers

MOST_CALLS = 40
GREATEST = 4294967295


def start(n):
    return [0, n]


def arrow(x, y):
    return [1, x, y]


def make(f, g, h):
    return [2, f, g, h]


def rows(i, x, k):
    return [3, i, x, k]


def lead(i, f, r, v):
    """The call that the document calls set."""
    return [4, i, f, r, v]


def check(i):
    return [5, i]


def way(k):
    return [6, k]


def part(p, *given):
    numbers = [number for row in given for number in row]
    return [7, p, len(numbers)] + numbers


def meet(p, q, o):
    return [8, p, q, o]


def join(p, q, o):
    return [9, p, q, o]


def implies(p, q, o):
    return [10, p, q, o]


def negate(p, o):
    """The call that the document calls not."""
    return [11, p, o]


def forward(p, o):
    return [12, p, o]


def back(p, o):
    return [13, p, o]


def for_all(p, o):
    """The call that the document calls forAll."""
    return [14, p, o]


def within(p, q):
    return [15, p, q]


def count(i):
    return [16, i]


def nth(p, k):
    return [17, p, k]


def truth(p, x, r):
    return [18, p, x, r]


def sieves(x):
    return [19, x]


def between(p):
    return [20, p]


def shows(p):
    return [21, p]


def seen(p):
    """A call that answers part p and leaves it as it is."""
    return meet(p, p, p)


def split_answers(told):
    """The answers, one list a call."""
    split = []
    at = 0
    while at < len(told):
        end = at + 1 + told[at]
        if told[at] < 1 or end > len(told):
            raise AssertionError(f"a count that can't be: {told[at]} at {at} of {told}")
        split.append(told[at + 1:end])
        at = end
    return split


def answered(calls):
    """The answers to these calls, one list a call."""
    if not 1 <= len(calls) <= MOST_CALLS:
        raise AssertionError(f"{len(calls)} calls are never handed in")
    split = split_answers(answers([number for call in calls for number in call]))
    if len(split) != len(calls):
        raise AssertionError(f"{len(calls)} calls, {len(split)} answers")
    return split


def last_answer(calls):
    return answered(calls)[-1]


# Two things, an arrow 2 from 0 to 1. Instance 0: rows 0, 1 of thing 0 lead to row 0 of thing 1,
# which has a row 1 as well; instance 1: row 0 of thing 0 leads to row 1 of thing 1, which has two.
ONE_ARROW = [
    start(2), arrow(0, 1),
    rows(0, 0, 2), rows(0, 1, 2), lead(0, 2, 0, 0), lead(0, 2, 1, 0),
    rows(1, 0, 1), rows(1, 1, 2), lead(1, 2, 0, 1),
]

# One thing, an arrow 1 from it to itself that makes itself twice over: each row leads to one that stays.
IDEMPOTENT = [start(1), arrow(0, 0), make(1, 1, 1)]

# One thing, an arrow 1 that is its own way back: rows lead to one another and back.
SWAP = [start(1), arrow(0, 0), make(1, 1, 0)]
