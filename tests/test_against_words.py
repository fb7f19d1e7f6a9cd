"""Many lines, always the same ones, against the document's words gone through by trying all there is."""

import unittest
from random import Random

from support import (
    GREATEST, IDEMPOTENT, SWAP, answered, arrow, check, implies, join, lead, make, meet, part, rows, start, way,
)
from words import Words

TRIANGLE = [start(3), arrow(0, 1), arrow(1, 2), arrow(0, 2), make(3, 4, 5)]
PARALLEL = [start(2), arrow(0, 1), arrow(0, 1)]
BACKWARD = [start(2), arrow(1, 0), arrow(1, 0)]
# 2 from 0 to 1 and 3 back make the things' own.
THERE_AND_BACK = [start(2), arrow(0, 1), arrow(1, 0), make(2, 3, 0), make(3, 2, 1)]
# 2 from 0 to 1, 3 back, 4 what 2 and 3 make; 3 and 2 make the thing's own.
RETRACT = [start(2), arrow(0, 1), arrow(1, 0), arrow(0, 0), make(2, 3, 4), make(3, 2, 1), make(4, 4, 4), make(4, 2, 2),
           make(3, 4, 3)]
# Each of the two makes itself with whatever comes behind, or in front.
FIRST_WINS = [start(1), arrow(0, 0), arrow(0, 0), make(1, 1, 1), make(1, 2, 1), make(2, 1, 2), make(2, 2, 2)]
LAST_WINS = [start(1), arrow(0, 0), arrow(0, 0), make(1, 1, 1), make(1, 2, 2), make(2, 1, 1), make(2, 2, 2)]
TURNS = [start(1), arrow(0, 0), arrow(0, 0), make(1, 1, 2), make(1, 2, 0), make(2, 1, 0), make(2, 2, 1)]
CATEGORIES = (
    [start(1)], [start(3)], IDEMPOTENT, SWAP, TRIANGLE, PARALLEL, BACKWARD, THERE_AND_BACK, RETRACT, FIRST_WINS,
    LAST_WINS, TURNS,
)


def told_category(calls):
    words = Words()
    for call in calls:
        words.answer(call)
    return words


def right_instance(pick, before, i, most):
    """Calls that tell a right instance i of some rows; none if there's none soon found."""
    words = told_category(before)
    for attempt in range(300):
        calls = []
        left = most
        for x in range(words.things):
            k = pick.randint(0, left)
            left -= k
            calls.append(rows(i, x, k))
        for call in calls:
            words.answer(call)
        for f in range(words.things, len(words.arrows)):
            x, y = words.arrows[f]
            for r in range(words.rows[i][x]):
                calls.append(lead(i, f, r, pick.randrange(max(1, words.rows[i][y]))))
        for call in calls:
            words.answer(call)
        if words.fault(i) == [0] and sum(words.rows[i]) > 1 and len(calls) <= 12:
            return calls
    return []


def any_number(pick, least_wrong):
    """Mostly a number below that, now and then that one or a great one."""
    if pick.random() < 0.05:
        return pick.choice((least_wrong, least_wrong + 1, GREATEST))
    return pick.randrange(max(1, least_wrong))


def any_row(pick, words, i):
    every = words.all_rows(i)
    if not every or pick.random() < 0.05:
        return (any_number(pick, words.things), any_number(pick, 6))
    return pick.choice(every)


def any_parts(pick, count):
    i = pick.randrange(2)
    return [any_number(pick, 8) if pick.random() < 0.05 else 4 * i + pick.randrange(4) for k in range(count)]


def any_part_call(pick, words):
    kind = pick.randrange(5)
    if kind < 2:
        p = any_parts(pick, 1)[0]
        return part(p, *[any_row(pick, words, p // 4 % 2) for k in range(pick.choice((0, 1, 1, 1, 2, 3)))])
    return (meet, join, implies)[kind - 2](*any_parts(pick, 3))


def any_telling_call(pick, words):
    arrows = len(words.arrows)
    return pick.choice((
        lambda: start(any_number(pick, 4)),
        lambda: arrow(any_number(pick, words.things), any_number(pick, words.things)),
        lambda: make(any_number(pick, arrows), any_number(pick, arrows), any_number(pick, arrows)),
        lambda: rows(any_number(pick, 2), any_number(pick, words.things), any_number(pick, 4)),
        lambda: rows(any_number(pick, 2), any_number(pick, words.things), any_number(pick, 4)),
        lambda: lead(any_number(pick, 2), any_number(pick, arrows), any_number(pick, 3), any_number(pick, 4)),
        lambda: lead(any_number(pick, 2), any_number(pick, arrows), any_number(pick, 3), any_number(pick, 100)),
    ))()


def any_call(pick, words, telling):
    if pick.random() < telling:
        return any_telling_call(pick, words)
    if pick.random() < 0.1:
        return check(any_number(pick, 2))
    if pick.random() < 0.1:
        return way(any_number(pick, 8))
    return any_part_call(pick, words)


class AgainstWordsTest(unittest.TestCase):
    def compare(self, pick, before, telling):
        words = Words()
        expected = [words.answer(call) for call in before]
        calls = list(before)
        while len(calls) < 40:
            calls.append(any_call(pick, words, telling))
            expected.append(words.answer(calls[-1]))
        self.assertEqual(answered(calls), expected, calls)

    def test_right_instances(self):
        for number, category in enumerate(CATEGORIES):
            for turn in range(30):
                pick = Random(1000 * number + turn)
                before = list(category)
                for i in (0, 1):
                    before += right_instance(pick, category, i, 4 + turn % 2)
                self.compare(pick, before, 0.02)

    def test_instances_that_are_changed(self):
        for number, category in enumerate(CATEGORIES):
            for turn in range(30):
                pick = Random(50000 + 1000 * number + turn)
                before = list(category)
                for i in (0, 1):
                    before += right_instance(pick, category, i, 3)
                self.compare(pick, before, 0.4)

    def test_lines_of_anything(self):
        for turn in range(200):
            self.compare(Random(90000 + turn), [], 0.6)

    def test_every_product_of_two_arrows(self):
        # All ways in which two arrows of one thing can make one another.
        for number in range(81):
            makes = [make(f, g, number // 3 ** (2 * (f - 1) + g - 1) % 3) for f in (1, 2) for g in (1, 2)]
            calls = [start(1), arrow(0, 0), arrow(0, 0)] + makes + [check(0)]
            words = Words()
            self.assertEqual(answered(calls), [words.answer(call) for call in calls])


if __name__ == "__main__":
    unittest.main()
