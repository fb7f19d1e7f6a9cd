"""Categories of many forms, and right instances of them, always the same ones."""

from support import IDEMPOTENT, SWAP, arrow, lead, make, rows, start
from words import Words

TRIANGLE = [start(3), arrow(0, 1), arrow(1, 2), arrow(0, 2), make(3, 4, 5)]
PARALLEL = [start(2), arrow(0, 1), arrow(0, 1)]
BACKWARD = [start(2), arrow(1, 0), arrow(1, 0)]
# 2 from 0 to 1 and 3 back make the things' own.
THERE_AND_BACK = [start(2), arrow(0, 1), arrow(1, 0), make(2, 3, 0), make(3, 2, 1)]
# 2 from 0 to 1, 3 back, 4 what 2 and 3 make; 3 and 2 make the thing's own.
RETRACT = [start(2), arrow(0, 1), arrow(1, 0), arrow(0, 0), make(2, 3, 4), make(3, 2, 1), make(4, 4, 4), make(4, 2, 2),
           make(3, 4, 3)]
# Each of the two makes itself with whatever comes behind, or in front.
FIRST_WINS = [start(1), arrow(0, 0), arrow(0, 0), make(1, 1, 1), make(1, 2, 1), make(2, 1, 2), make(2, 2, 2)]
LAST_WINS = [start(1), arrow(0, 0), arrow(0, 0), make(1, 1, 1), make(1, 2, 2), make(2, 1, 1), make(2, 2, 2)]
TURNS = [start(1), arrow(0, 0), arrow(0, 0), make(1, 1, 2), make(1, 2, 0), make(2, 1, 0), make(2, 2, 1)]
CATEGORIES = (
    [start(1)], [start(3)], IDEMPOTENT, SWAP, TRIANGLE, PARALLEL, BACKWARD, THERE_AND_BACK, RETRACT, FIRST_WINS,
    LAST_WINS, TURNS,
)


def told_words(calls):
    words = Words()
    for call in calls:
        words.answer(call)
    return words


def right_instance(pick, before, i, most):
    """Calls that tell a right instance i of some rows; none if there's none soon found."""
    words = told_words(before)
    for attempt in range(300):
        calls = []
        left = most
        for x in range(words.things):
            k = pick.randint(0, left)
            left -= k
            calls.append(rows(i, x, k))
        for call in calls:
            words.answer(call)
        for f in range(words.things, len(words.arrows)):
            x, y = words.arrows[f]
            for r in range(words.rows[i][x]):
                calls.append(lead(i, f, r, pick.randrange(max(1, words.rows[i][y]))))
        for call in calls:
            words.answer(call)
        if words.fault(i) == [0] and sum(words.rows[i]) > 1 and len(calls) <= 12:
            return calls
    return []


def right_pair(pick, category, most):
    """Calls that tell this category and two right instances with a map from 0 to 1."""
    for attempt in range(50):
        calls = category + right_instance(pick, category, 0, most) + right_instance(pick, category, 1, most)
        words = told_words(calls)
        if sum(words.rows[0]) > 1 and sum(words.rows[1]) > 1 and words.all_maps():
            return calls
    raise AssertionError("no such pair is soon found")
