"""count, nth, sieves: what they answer, what they leave, what they refuse (points 2, 4 and 5)."""

import unittest

from samples import PARALLEL, TRIANGLE, TURNS
from support import (
    GREATEST, IDEMPOTENT, ONE_ARROW, SWAP, answered, arrow, check, count, last_answer, lead, make, nth, part, rows,
    shows, sieves, start,
)

# One thing, one arrow of it of which isn't told what it makes with itself.
NO_CATEGORY = [start(1), arrow(0, 0)]


def all_parts(before, p):
    """The parts in order, each asked for in a line of its own, up to the first refusal."""
    found = []
    while True:
        answer = last_answer(before + [nth(p, len(found))])
        if answer == [-3]:
            return found
        found.append(answer)


class CountTest(unittest.TestCase):
    def test_without_rows_there_is_one(self):
        self.assertEqual(answered([count(0), count(1)]), [[1], [1]])
        self.assertEqual(last_answer(TRIANGLE + [count(1)]), [1])

    def test_without_arrows_all_rows_are_free(self):
        for k in range(7):
            self.assertEqual(last_answer([rows(0, 0, k), count(0)]), [2 ** k])
        self.assertEqual(last_answer([start(3), rows(1, 0, 1), rows(1, 1, 2), rows(1, 2, 3), count(1)]), [64])

    def test_rows_bring_what_they_lead_to(self):
        # Of instance 0 row 1 of thing 1 is free; with row 0 go none or any of thing 0.
        self.assertEqual(answered(ONE_ARROW + [count(0), count(1)])[-2:], [[10], [6]])

    def test_six_rows_that_lead_to_one(self):
        leads = [lead(1, 1, r, 0) for r in range(6)]
        self.assertEqual(last_answer(IDEMPOTENT + [rows(1, 0, 6)] + leads + [count(1)]), [33])

    def test_rows_that_lead_to_one_another_go_together(self):
        leads = [lead(0, 1, r, r ^ 1) for r in range(6)]
        self.assertEqual(last_answer(SWAP + [rows(0, 0, 6)] + leads + [count(0)]), [8])

    def test_each_instance_is_counted_by_itself(self):
        self.assertEqual(answered([rows(1, 0, 3), count(0), count(1)])[1:], [[1], [8]])

    def test_what_parts_there_are_told_does_not_count(self):
        self.assertEqual(answered(ONE_ARROW + [part(0, (0, 0)), count(0), shows(0)])[-2:], [[10], [2, 0, 0, 1, 0]])

    def test_refuses_instances_that_there_are_not(self):
        for i in (2, 3, GREATEST):
            self.assertEqual(last_answer(ONE_ARROW + [count(i)]), [-2])

    def test_refuses_what_is_no_category(self):
        self.assertEqual(answered(NO_CATEGORY + [count(0), count(1)])[-2:], [[-6], [-6]])

    def test_refuses_an_instance_that_is_not_right(self):
        for i in (0, 1):
            for v in (99, 98, 2):
                told = answered(ONE_ARROW + [lead(i, 2, 0, v), count(i), count(1 - i)])
                self.assertEqual(told[-2:], [[-6], [[6], [10]][i]])
            before = IDEMPOTENT + [rows(i, 0, 2), lead(i, 1, 0, 1), lead(i, 1, 1, 0)]
            self.assertEqual(answered(before + [count(i), count(1 - i)])[-2:], [[-6], [1]])

    def test_no_such_instance_is_told_first(self):
        self.assertEqual(last_answer(NO_CATEGORY + [count(2)]), [-2])
        self.assertEqual(last_answer(NO_CATEGORY + [count(GREATEST)]), [-2])


class NthTest(unittest.TestCase):
    def test_without_rows(self):
        for p in (0, 3, 4, 7):
            self.assertEqual(answered([nth(p, 0), nth(p, 1), nth(p, GREATEST)]), [[0], [-3], [-3]])

    def test_without_arrows(self):
        self.assertEqual(all_parts([rows(0, 0, 3)], 0), [
            [0], [1, 0, 2], [1, 0, 1], [2, 0, 1, 0, 2],
            [1, 0, 0], [2, 0, 0, 0, 2], [2, 0, 0, 0, 1], [3, 0, 0, 0, 1, 0, 2],
        ])

    def test_with_an_arrow(self):
        self.assertEqual(all_parts(ONE_ARROW, 4), [
            [0], [1, 1, 1], [1, 1, 0], [2, 1, 0, 1, 1], [2, 0, 0, 1, 1], [3, 0, 0, 1, 0, 1, 1],
        ])
        self.assertEqual(all_parts(ONE_ARROW, 3), [
            [0], [1, 1, 1], [1, 1, 0], [2, 1, 0, 1, 1],
            [2, 0, 1, 1, 0], [3, 0, 1, 1, 0, 1, 1],
            [2, 0, 0, 1, 0], [3, 0, 0, 1, 0, 1, 1],
            [3, 0, 0, 0, 1, 1, 0], [4, 0, 0, 0, 1, 1, 0, 1, 1],
        ])

    def test_with_an_arrow_back(self):
        # Row 0 of thing 1 leads to row 1 of thing 0.
        before = [start(2), arrow(1, 0), rows(0, 0, 2), rows(0, 1, 1), lead(0, 2, 0, 1)]
        self.assertEqual(all_parts(before, 1), [
            [0], [1, 0, 1], [2, 0, 1, 1, 0], [1, 0, 0], [2, 0, 0, 0, 1], [3, 0, 0, 0, 1, 1, 0],
        ])

    def test_six_rows(self):
        before = [rows(1, 0, 6)]
        self.assertEqual(last_answer(before + [nth(7, 0)]), [0])
        self.assertEqual(last_answer(before + [nth(7, 1)]), [1, 0, 5])
        self.assertEqual(last_answer(before + [nth(7, 32)]), [1, 0, 0])
        self.assertEqual(last_answer(before + [nth(7, 62)]), [5, 0, 0, 0, 1, 0, 2, 0, 3, 0, 4])
        self.assertEqual(last_answer(before + [nth(7, 63)]), [6, 0, 0, 0, 1, 0, 2, 0, 3, 0, 4, 0, 5])
        self.assertEqual(last_answer(before + [nth(7, 64)]), [-3])
        self.assertEqual(last_answer(before + [nth(7, GREATEST)]), [-3])

    def test_it_is_part_p_then(self):
        for p in range(8):
            told = answered(ONE_ARROW + [part(p, (1, 0)), nth(p, 1)] + [shows(q) for q in range(8)])
            self.assertEqual(told[-8:], [[1, 1, 1] if q == p else [0] for q in range(8)])

    def test_a_refused_one_leaves_part_p(self):
        told = answered(ONE_ARROW + [part(0, (1, 0)), nth(0, 10), shows(0), nth(0, 9)])
        self.assertEqual(told[-3:], [[-3], [1, 1, 0], [4, 0, 0, 0, 1, 1, 0, 1, 1]])

    def test_parts_3_and_4_are_of_instances_0_and_1(self):
        before = [rows(0, 0, 1), rows(1, 0, 2)]
        self.assertEqual(answered(before + [nth(3, 1), nth(3, 2), nth(4, 3), nth(4, 4)])[2:],
                         [[1, 0, 0], [-3], [2, 0, 0, 0, 1], [-3]])

    def test_refuses_parts_that_there_are_not(self):
        for p in (8, 9, GREATEST):
            self.assertEqual(last_answer(ONE_ARROW + [nth(p, 0)]), [-2])

    def test_refuses_what_is_no_category(self):
        for p in (0, 3, 4, 7):
            self.assertEqual(last_answer(NO_CATEGORY + [nth(p, 0)]), [-6])

    def test_refuses_an_instance_that_is_not_right(self):
        for i in (0, 1):
            for v in (99, 98, 2):
                before = ONE_ARROW + [lead(i, 2, 0, v)]
                self.assertEqual(last_answer(before + [nth(4 * i, 0)]), [-6])
                self.assertEqual(last_answer(before + [nth(4 * i + 3, 0)]), [-6])
                self.assertEqual(last_answer(before + [nth(4 - 4 * i, 0)]), [0])
                self.assertEqual(last_answer(before + [nth(7 - 4 * i, 1)]), [1, 1, 1])

    def test_which_refusal_is_told_first(self):
        self.assertEqual(last_answer(NO_CATEGORY + [nth(8, GREATEST)]), [-2])
        self.assertEqual(last_answer([nth(8, 1)]), [-2])
        self.assertEqual(last_answer(NO_CATEGORY + [nth(7, GREATEST)]), [-6])
        self.assertEqual(last_answer(ONE_ARROW + [lead(0, 2, 0, 99), nth(0, GREATEST)]), [-6])


class SievesTest(unittest.TestCase):
    def test_a_thing_with_its_own_arrow_alone(self):
        self.assertEqual(answered([sieves(0), sieves(1)]), [[2], [-1]])
        self.assertEqual(answered([start(3), sieves(0), sieves(1), sieves(2), sieves(3)])[1:], [[2], [2], [2], [-1]])

    def test_with_its_own_arrow_go_all(self):
        self.assertEqual(answered([start(2), arrow(0, 1), sieves(0), sieves(1)])[-2:], [[3], [2]])
        self.assertEqual(answered(PARALLEL + [sieves(0), sieves(1)])[-2:], [[5], [2]])

    def test_with_an_arrow_goes_what_it_makes(self):
        # From 0: none, {5}, {3, 5}, all; from 1: none, {4}, all.
        self.assertEqual(answered(TRIANGLE + [sieves(0), sieves(1), sieves(2)])[-3:], [[4], [3], [2]])
        self.assertEqual(last_answer(IDEMPOTENT + [sieves(0)]), [3])

    def test_an_arrow_that_can_be_undone_brings_all(self):
        self.assertEqual(last_answer(SWAP + [sieves(0)]), [2])
        self.assertEqual(last_answer(TURNS + [sieves(0)]), [2])

    def test_what_comes_behind_counts_not_what_comes_before(self):
        # Each makes itself whatever comes behind: both are free. With the other order each brings the other one.
        first = [start(1), arrow(0, 0), arrow(0, 0), make(1, 1, 1), make(1, 2, 1), make(2, 1, 2), make(2, 2, 2)]
        last = [start(1), arrow(0, 0), arrow(0, 0), make(1, 1, 1), make(1, 2, 2), make(2, 1, 1), make(2, 2, 2)]
        self.assertEqual(last_answer(first + [sieves(0)]), [5])
        self.assertEqual(last_answer(last + [sieves(0)]), [3])

    def test_many_arrows(self):
        # Six free arrows from 0 to 1: any of these, or all with the thing's own.
        before = [start(2)] + [arrow(0, 1)] * 6
        self.assertEqual(answered(before + [sieves(0), sieves(1)])[-2:], [[65], [2]])
        # Five arrows of one thing, each of which makes itself with whatever comes behind.
        makes = [make(f, g, f) for f in range(1, 6) for g in range(1, 6)]
        self.assertEqual(last_answer([start(1)] + [arrow(0, 0)] * 5 + makes + [sieves(0)]), [33])

    def test_things_with_arrows_to_them_alone(self):
        self.assertEqual(answered([start(3), arrow(0, 2), arrow(1, 2), sieves(0), sieves(1), sieves(2)])[-3:],
                         [[3], [3], [2]])

    def test_rows_do_not_count(self):
        before = [start(2), arrow(0, 1), rows(0, 0, 3)]
        self.assertEqual(answered(before + [check(0), sieves(0), sieves(1)])[-3:], [[1, 2, 0], [3], [2]])

    def test_nothing_is_changed(self):
        told = answered(ONE_ARROW + [part(0, (0, 0)), sieves(0), sieves(5), shows(0)])
        self.assertEqual(told[-3:], [[3], [-1], [2, 0, 0, 1, 0]])

    def test_refuses_things_that_there_are_not(self):
        for n in (1, 2, 3):
            for x in (n, n + 1, GREATEST):
                self.assertEqual(last_answer([start(n), sieves(x)]), [-1])

    def test_refuses_what_is_no_category(self):
        self.assertEqual(last_answer(NO_CATEGORY + [sieves(0)]), [-6])
        self.assertEqual(last_answer([start(2), arrow(0, 0), sieves(1)]), [-6])
        # What is made leads elsewhere; the order in which three are taken matters.
        self.assertEqual(last_answer([start(3), arrow(0, 1), arrow(1, 2), make(3, 4, 3), sieves(2)]), [-6])
        uneven = [start(1), arrow(0, 0), arrow(0, 0), make(1, 1, 2), make(1, 2, 1), make(2, 1, 2), make(2, 2, 2)]
        self.assertEqual(last_answer(uneven + [sieves(0)]), [-6])

    def test_no_category_is_told_first(self):
        self.assertEqual(last_answer(NO_CATEGORY + [sieves(1)]), [-6])
        self.assertEqual(last_answer(NO_CATEGORY + [sieves(GREATEST)]), [-6])


if __name__ == "__main__":
    unittest.main()
