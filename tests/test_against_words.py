"""Many lines, always the same ones, against the document's words gone through by trying all there is."""

import unittest
from random import Random

from samples import CATEGORIES, right_instance, right_pair
from support import (
    GREATEST, answered, arrow, back, between, check, count, for_all, forward, implies, join, lead, make, meet, negate,
    nth, part, rows, shows, sieves, start, truth, way, within,
)
from words import Words


def any_number(pick, least_wrong):
    """Mostly a number below that, now and then that one or a great one."""
    if pick.random() < 0.05:
        return pick.choice((least_wrong, least_wrong + 1, GREATEST))
    return pick.randrange(max(1, least_wrong))


def any_row(pick, words, i):
    every = words.all_rows(i)
    if not every or pick.random() < 0.05:
        return (any_number(pick, words.things), any_number(pick, 6))
    return pick.choice(every)


def any_parts(pick, how_many):
    i = pick.randrange(2)
    return [any_number(pick, 8) if pick.random() < 0.05 else 4 * i + pick.randrange(4) for k in range(how_many)]


def any_brought(pick, words):
    p = any_parts(pick, 1)[0]
    return part(p, *[any_row(pick, words, p // 4 % 2) for k in range(pick.choice((0, 1, 1, 1, 2, 3)))])


def any_nth(pick, words):
    p = any_parts(pick, 1)[0]
    i = p // 4 % 2
    return nth(p, any_number(pick, len(words.all_parts(i)) if words.right(i) else 8))


def any_truth(pick, words):
    p = any_parts(pick, 1)[0]
    return truth(p, *any_row(pick, words, p // 4 % 2))


def any_along(pick):
    p, o = pick.randrange(4), 4 + pick.randrange(4)
    call = pick.choice((forward, back, for_all))
    if call == back:
        p, o = o, p
    if pick.random() < 0.1:
        p, o = any_number(pick, 8), any_number(pick, 8)
    return call(p, o)


def any_part_call(pick, words):
    return pick.choice((
        lambda: any_brought(pick, words),
        lambda: any_brought(pick, words),
        lambda: any_nth(pick, words),
        lambda: any_nth(pick, words),
        lambda: pick.choice((meet, join, implies))(*any_parts(pick, 3)),
        lambda: pick.choice((meet, join, implies))(*any_parts(pick, 3)),
        lambda: negate(*any_parts(pick, 2)),
        lambda: any_along(pick),
        lambda: any_along(pick),
        lambda: any_along(pick),
        lambda: within(*any_parts(pick, 2)),
        lambda: any_truth(pick, words),
        lambda: between(*any_parts(pick, 1)),
        lambda: shows(*any_parts(pick, 1)),
        lambda: count(any_number(pick, 2)),
        lambda: sieves(any_number(pick, words.things)),
    ))()


def any_telling_call(pick, words):
    arrows = len(words.arrows)
    return pick.choice((
        lambda: start(any_number(pick, 4)),
        lambda: arrow(any_number(pick, words.things), any_number(pick, words.things)),
        lambda: make(any_number(pick, arrows), any_number(pick, arrows), any_number(pick, arrows)),
        lambda: rows(any_number(pick, 2), any_number(pick, words.things), any_number(pick, 4)),
        lambda: rows(any_number(pick, 2), any_number(pick, words.things), any_number(pick, 4)),
        lambda: lead(any_number(pick, 2), any_number(pick, arrows), any_number(pick, 3), any_number(pick, 4)),
        lambda: lead(any_number(pick, 2), any_number(pick, arrows), any_number(pick, 3), any_number(pick, 100)),
    ))()


def any_call(pick, words, telling):
    if pick.random() < telling:
        return any_telling_call(pick, words)
    if pick.random() < 0.05:
        return check(any_number(pick, 2))
    if pick.random() < 0.1:
        return way(pick.choice((0, any_number(pick, 8))))
    return any_part_call(pick, words)


class AgainstWordsTest(unittest.TestCase):
    def compare(self, pick, before, telling):
        words = Words()
        expected = [words.answer(call) for call in before]
        calls = list(before)
        while len(calls) < 40:
            calls.append(any_call(pick, words, telling))
            expected.append(words.answer(calls[-1]))
        self.assertEqual(answered(calls), expected, calls)

    def test_right_instances(self):
        for number, category in enumerate(CATEGORIES):
            for turn in range(30):
                pick = Random(1000 * number + turn)
                before = list(category)
                for i in (0, 1):
                    before += right_instance(pick, category, i, 4 + turn % 2)
                self.compare(pick, before, 0.02)

    def test_parts_along_maps(self):
        for number, category in enumerate(CATEGORIES):
            for turn in range(60):
                pick = Random(200000 + 1000 * number + turn)
                before = right_pair(pick, category, 3 + turn % 3)
                before.append(way(pick.choice((0, 0, 1))))
                for p in (0, 1, 4, 5):
                    before.append(nth(p, pick.randrange(8)))
                self.compare(pick, before, 0)

    def test_instances_that_are_changed(self):
        for number, category in enumerate(CATEGORIES):
            for turn in range(30):
                pick = Random(50000 + 1000 * number + turn)
                before = list(category)
                for i in (0, 1):
                    before += right_instance(pick, category, i, 3)
                self.compare(pick, before, 0.4)

    def test_lines_of_anything(self):
        for turn in range(200):
            self.compare(Random(90000 + turn), [], 0.6)

    def test_every_product_of_two_arrows(self):
        # All ways in which two arrows of one thing can make one another.
        for number in range(81):
            makes = [make(f, g, number // 3 ** (2 * (f - 1) + g - 1) % 3) for f in (1, 2) for g in (1, 2)]
            calls = [start(1), arrow(0, 0), arrow(0, 0)] + makes + [check(0), sieves(0), count(0)]
            words = Words()
            self.assertEqual(answered(calls), [words.answer(call) for call in calls])


if __name__ == "__main__":
    unittest.main()
