"""start, arrow, make: what they answer, what they leave, what they refuse (point 1)."""

import unittest

from support import (
    GREATEST, IDEMPOTENT, ONE_ARROW, answered, arrow, check, last_answer, lead, make, part, rows, seen, start, way,
)

NO_ROWS = [[0]] * 8
EIGHT_SEEN = [seen(p) for p in range(8)]


class StartTest(unittest.TestCase):
    def test_answers_how_many_things(self):
        for n in (1, 2, 3):
            self.assertEqual(last_answer([start(n)]), [n])

    def test_there_are_n_things(self):
        for n in (1, 2, 3):
            told = answered([start(n), rows(0, n - 1, 1), rows(0, n, 1)])
            self.assertEqual(told[1:], [[1], [-1]])

    def test_at_the_beginning_there_is_one_thing_and_its_arrow(self):
        self.assertEqual(answered([rows(0, 0, 0), rows(0, 1, 0), arrow(0, 0)]), [[0], [-1], [1]])

    def test_refuses_other_numbers_of_things(self):
        for n in (0, 4, 5, GREATEST):
            self.assertEqual(last_answer([start(n)]), [-1])

    def test_things_have_their_own_arrows_alone(self):
        for n in (1, 2, 3):
            self.assertEqual(last_answer(ONE_ARROW + [start(n), arrow(0, 0)]), [n])

    def test_leaves_no_rows(self):
        told = answered(ONE_ARROW + [part(0, (0, 0)), part(4, (0, 0)), start(2)] + EIGHT_SEEN)
        self.assertEqual(told[-8:], NO_ROWS)
        self.assertEqual(last_answer(ONE_ARROW + [start(2), rows(0, 0, 0)]), [0])
        self.assertEqual(last_answer(ONE_ARROW + [start(2), rows(1, 1, 0)]), [0])

    def test_leaves_nothing_made(self):
        # Told again, the arrow 1 from 0 to 0 has no square any more.
        self.assertEqual(last_answer(IDEMPOTENT + [check(0)]), [0])
        self.assertEqual(last_answer(IDEMPOTENT + [start(1), arrow(0, 0), check(0)]), [-6])


class ArrowTest(unittest.TestCase):
    def test_numbers_go_on_behind_the_things_own(self):
        self.assertEqual(answered([start(3), arrow(0, 1), arrow(2, 2), arrow(0, 1)])[1:], [[3], [4], [5]])

    def test_leads_from_the_first_to_the_second(self):
        told = answered([start(2), arrow(0, 1), rows(0, 0, 1), lead(0, 2, 0, 0), rows(0, 0, 0), rows(0, 1, 1),
                         lead(0, 2, 0, 0)])
        self.assertEqual(told[3], [99])
        self.assertEqual(told[6], [-1])

    def test_refuses_things_that_there_are_not(self):
        for x, y in ((2, 0), (0, 2), (2, 2), (GREATEST, 0), (0, GREATEST)):
            self.assertEqual(last_answer([start(2), arrow(x, y)]), [-1])
        self.assertEqual(last_answer([start(3), arrow(2, 2)]), [3])

    def test_refuses_the_ninth_arrow(self):
        for n in (1, 2, 3):
            told = answered([start(n)] + [arrow(0, 0)] * (9 - n))
            self.assertEqual(told[1:], [[k] for k in range(n, 8)] + [[-5]])

    def test_no_such_thing_is_told_before_eight_arrows(self):
        self.assertEqual(last_answer([start(1)] + [arrow(0, 0)] * 7 + [arrow(0, 1)]), [-1])
        self.assertEqual(last_answer([start(1)] + [arrow(0, 0)] * 7 + [arrow(1, 0)]), [-1])

    def test_leaves_no_rows(self):
        told = answered(ONE_ARROW + [part(0, (0, 0)), part(4, (0, 0)), arrow(0, 1)] + EIGHT_SEEN)
        self.assertEqual(told[-9:], [[3]] + NO_ROWS)
        for i in (0, 1):
            for x in (0, 1):
                self.assertEqual(last_answer(ONE_ARROW + [arrow(0, 1), rows(i, x, 0)]), [0])

    def test_keeps_what_is_made(self):
        # That 2 and 2 make 2 is told ahead of arrow 3; only of 2 and 3 it isn't told then.
        before = [start(2), arrow(0, 0), make(2, 2, 2), arrow(0, 1)]
        self.assertEqual(last_answer(before + [check(0)]), [-6])
        self.assertEqual(last_answer(before + [make(2, 3, 3), check(0)]), [0])


class MakeTest(unittest.TestCase):
    def test_answers_what_is_made(self):
        self.assertEqual(last_answer([start(1), arrow(0, 0), make(1, 1, 1)]), [1])
        self.assertEqual(last_answer([start(1), arrow(0, 0), make(1, 1, 0)]), [0])

    def test_the_first_comes_before_the_second(self):
        # Arrow 3 from 0 to 1, arrow 4 from 1 to 2: these meet, not the other way round.
        before = [start(3), arrow(0, 1), arrow(1, 2), arrow(0, 2)]
        self.assertEqual(last_answer(before + [make(3, 4, 5)]), [5])
        self.assertEqual(last_answer(before + [make(4, 3, 5)]), [-1])

    def test_what_is_told_later_counts(self):
        told = answered(IDEMPOTENT + [make(1, 1, 0), rows(0, 0, 2), lead(0, 1, 0, 1), lead(0, 1, 1, 0), check(0)])
        self.assertEqual(told[-1], [0])
        told = answered(IDEMPOTENT + [rows(0, 0, 2), lead(0, 1, 0, 1), lead(0, 1, 1, 0), check(0)])
        self.assertEqual(told[-1], [3, 1, 1, 0])

    def test_what_is_made_may_lead_elsewhere(self):
        self.assertEqual(last_answer([start(3), arrow(0, 1), arrow(1, 2), make(3, 4, 0)]), [0])

    def test_refuses_arrows_that_there_are_not(self):
        for f, g, h in ((2, 1, 1), (1, 2, 1), (1, 1, 2), (GREATEST, 1, 1), (1, GREATEST, 1), (1, 1, GREATEST)):
            self.assertEqual(last_answer([start(1), arrow(0, 0), make(f, g, h)]), [-3])

    def test_refuses_things_own_arrows(self):
        for f, g in ((0, 1), (1, 0), (0, 0)):
            self.assertEqual(last_answer([start(1), arrow(0, 0), make(f, g, 1)]), [-1])

    def test_refuses_arrows_that_do_not_meet(self):
        self.assertEqual(last_answer([start(2), arrow(0, 1), make(2, 2, 2)]), [-1])

    def test_no_such_arrow_is_told_first(self):
        for f, g, h in ((0, 1, 2), (1, 0, 2), (0, 2, 1), (2, 0, 1)):
            self.assertEqual(last_answer([start(1), arrow(0, 0), make(f, g, h)]), [-3])
        self.assertEqual(last_answer([start(2), arrow(0, 1), make(2, 2, 3)]), [-3])

    def test_leaves_no_rows(self):
        before = IDEMPOTENT + [
            rows(0, 0, 2), lead(0, 1, 0, 0), lead(0, 1, 1, 0), rows(1, 0, 1), lead(1, 1, 0, 0),
            part(3, (0, 1)), part(7, (0, 0)),
        ]
        self.assertEqual(answered(before)[-2:], [[2, 0, 0, 0, 1], [1, 0, 0]])
        told = answered(before + [make(1, 1, 1)] + EIGHT_SEEN + [way(0), rows(0, 0, 0), rows(1, 0, 0)])
        self.assertEqual(told[-12:], [[1]] + NO_ROWS + [[1], [0], [0]])


if __name__ == "__main__":
    unittest.main()
