"""within, truth, between, shows: what they answer and what they refuse (points 2, 4 and 5)."""

import unittest

from samples import TRIANGLE
from support import (
    GREATEST, IDEMPOTENT, ONE_ARROW, SWAP, answered, arrow, between, check, last_answer, lead, part, rows, shows, start,
    truth, within,
)

NO_CATEGORY = [start(1), arrow(0, 0)]
FOUR = [rows(0, 0, 4), rows(1, 0, 4)]


def not_right(i):
    """Lines in which instance i isn't right, the other one is, and its first part has row 0 of thing 1."""
    other = part(4 - 4 * i, (1, 0))
    return [ONE_ARROW + [other, lead(i, 2, 0, v)] for v in (99, 98, 2)]


class WithinTest(unittest.TestCase):
    def test_whether_the_second_has_all_of_the_first(self):
        for one, two, told in (
            ((), (), 1), ((), (2,), 1), ((2,), (), 0), ((2,), (2,), 1), ((1,), (2,), 0), ((1,), (1, 2), 1),
            ((1, 2), (1,), 0), ((1, 2), (2, 3), 0), ((0, 3), (0, 1, 2, 3), 1), ((0, 1, 2, 3), (0, 1, 2), 0),
        ):
            calls = FOUR + [part(0, *[(0, r) for r in one]), part(3, *[(0, r) for r in two]), within(0, 3)]
            self.assertEqual(last_answer(calls), [told])
            calls = FOUR + [part(7, *[(0, r) for r in one]), part(4, *[(0, r) for r in two]), within(7, 4)]
            self.assertEqual(last_answer(calls), [told])

    def test_rows_of_one_number_of_two_things(self):
        before = [start(2), rows(0, 0, 1), rows(0, 1, 1), part(0, (0, 0)), part(1, (1, 0))]
        self.assertEqual(answered(before + [within(0, 1), within(1, 0)])[-2:], [[0], [0]])

    def test_of_itself(self):
        for p in range(8):
            self.assertEqual(last_answer(ONE_ARROW + [part(p, (0, 0)), within(p, p)]), [1])

    def test_refuses_parts_that_there_are_not(self):
        for p, q in ((8, 0), (0, 8), (8, 4), (4, 8), (8, 8), (9, 9), (7, 8), (8, 7), (GREATEST, 0), (4, GREATEST),
                     (GREATEST, GREATEST)):
            self.assertEqual(last_answer(FOUR + [within(p, q)]), [-2])

    def test_refuses_parts_of_two_instances(self):
        for p, q in ((0, 4), (3, 4), (4, 3), (7, 0), (0, 7)):
            self.assertEqual(last_answer(FOUR + [within(p, q)]), [-2])
            self.assertEqual(last_answer(NO_CATEGORY + [within(p, q)]), [-2])

    def test_is_answered_where_it_is_no_category(self):
        self.assertEqual(answered(NO_CATEGORY + [check(0), within(0, 1), within(7, 4), within(0, 8)])[-4:],
                         [[-6], [1], [1], [-2]])

    def test_is_answered_where_an_instance_is_not_right(self):
        for i in (0, 1):
            for before in not_right(i):
                told = answered(before + [within(4 * i, 4 * i + 3), within(4 - 4 * i, 7 - 4 * i), within(0, 4)])
                self.assertEqual(told[-3:], [[1], [0], [-2]])


class TruthTest(unittest.TestCase):
    def test_with_the_things_own_arrow_alone(self):
        told = answered(FOUR + [part(0, (0, 2)), truth(0, 0, 2), truth(0, 0, 3)])
        self.assertEqual(told[-2:], [[1, 0], [0]])

    def test_along_which_arrows_it_leads_into_it(self):
        before = ONE_ARROW + [part(0, (1, 0)), part(1, (0, 0)), part(2, (1, 1))]
        told = answered(before + [truth(0, 0, 0), truth(0, 0, 1), truth(0, 1, 0), truth(0, 1, 1)])
        self.assertEqual(told[-4:], [[1, 2], [1, 2], [1, 1], [0]])
        told = answered(before + [truth(1, 0, 0), truth(1, 0, 1), truth(1, 1, 0), truth(1, 1, 1)])
        self.assertEqual(told[-4:], [[2, 0, 2], [1, 2], [1, 1], [0]])
        told = answered(before + [truth(2, 0, 0), truth(2, 0, 1), truth(2, 1, 0), truth(2, 1, 1), truth(3, 1, 1)])
        self.assertEqual(told[-5:], [[0], [0], [0], [1, 1], [0]])

    def test_many_arrows(self):
        # Arrows 2 to 7 from 0 to 1: row 0 leads to 0, 1, 0, 1, 1, 0.
        before = [start(2)] + [arrow(0, 1)] * 6 + [rows(1, 0, 1), rows(1, 1, 2)]
        before += [lead(1, f, 0, v) for f, v in zip(range(2, 8), (0, 1, 0, 1, 1, 0))]
        told = answered(before + [part(4, (1, 0)), truth(4, 0, 0), part(4, (1, 1)), truth(4, 0, 0), part(4, (0, 0)),
                                  truth(4, 0, 0), part(4), truth(4, 0, 0)])
        self.assertEqual([told[-7], told[-5], told[-3], told[-1]],
                         [[3, 2, 4, 7], [3, 3, 5, 6], [7, 0, 2, 3, 4, 5, 6, 7], [0]])

    def test_how_far_it_is(self):
        # Row 0 of each thing leads to row 0; the part has that of thing 2, then of thing 1, too, then all.
        before = TRIANGLE + [rows(0, 0, 1), rows(0, 1, 1), rows(0, 2, 1), lead(0, 3, 0, 0), lead(0, 4, 0, 0),
                             lead(0, 5, 0, 0), part(0, (2, 0)), part(1, (1, 0)), part(2, (0, 0))]
        self.assertEqual(answered(before + [truth(p, 0, 0) for p in range(4)])[-4:],
                         [[1, 5], [2, 3, 5], [3, 0, 3, 5], [0]])
        self.assertEqual(answered(before + [truth(p, 1, 0) for p in range(4)])[-4:],
                         [[1, 4], [2, 1, 4], [2, 1, 4], [0]])

    def test_where_rows_lead_to_one_another(self):
        before = SWAP + [rows(0, 0, 3), lead(0, 1, 0, 1), lead(0, 1, 1, 0), lead(0, 1, 2, 2), part(0, (0, 1))]
        self.assertEqual(answered(before + [truth(0, 0, r) for r in range(3)])[-3:], [[2, 0, 1], [2, 0, 1], [0]])

    def test_the_row_is_of_the_part_s_instance(self):
        before = [rows(0, 0, 1), rows(1, 0, 2)]
        self.assertEqual(answered(before + [truth(3, 0, 1), truth(4, 0, 1), truth(7, 0, 1)])[-3:], [[-1], [0], [0]])

    def test_six_rows(self):
        before = [rows(1, 0, 6), part(7, (0, 5))]
        self.assertEqual(answered(before + [truth(7, 0, 5), truth(7, 0, 4), truth(7, 0, 6)])[-3:], [[1, 0], [0], [-1]])

    def test_refuses_parts_that_there_are_not(self):
        for p in (8, 9, GREATEST):
            self.assertEqual(last_answer(ONE_ARROW + [truth(p, 0, 0)]), [-2])

    def test_refuses_what_is_no_category_or_not_right(self):
        for p in (0, 3, 4, 7):
            self.assertEqual(last_answer(NO_CATEGORY + [rows(0, 0, 1), rows(1, 0, 1), truth(p, 0, 0)]), [-6])
        for i in (0, 1):
            for before in not_right(i):
                told = answered(before + [truth(4 * i, 0, 0), truth(4 * i + 3, 1, 0), truth(4 - 4 * i, 1, 0)])
                self.assertEqual(told[-3:], [[-6], [-6], [1, 1]])

    def test_refuses_rows_that_there_are_not(self):
        for x, r in ((0, 2), (1, 2), (2, 0), (3, 0), (GREATEST, 0), (0, GREATEST), (GREATEST, GREATEST)):
            self.assertEqual(last_answer(ONE_ARROW + [truth(0, x, r)]), [-1])
        for x, r in ((0, 1), (1, 2), (2, 0)):
            self.assertEqual(last_answer(ONE_ARROW + [truth(7, x, r)]), [-1])
        self.assertEqual(answered([truth(0, 0, 0), truth(4, 0, 0)]), [[-1], [-1]])

    def test_which_refusal_is_told_first(self):
        self.assertEqual(last_answer(NO_CATEGORY + [truth(8, 9, 9)]), [-2])
        self.assertEqual(last_answer([truth(8, 9, 9)]), [-2])
        self.assertEqual(last_answer(NO_CATEGORY + [truth(0, 9, 9)]), [-6])
        self.assertEqual(last_answer(ONE_ARROW + [lead(1, 2, 0, 99), truth(4, 9, 9)]), [-6])


class BetweenTest(unittest.TestCase):
    def test_without_arrows_nothing_is_left(self):
        for given in ([], [(0, 0)], [(0, 1), (0, 3)], [(0, r) for r in range(4)]):
            self.assertEqual(last_answer(FOUR + [part(0, *given), between(0)]), [0])

    def test_what_is_out_but_leads_into_it(self):
        self.assertEqual(last_answer(ONE_ARROW + [part(0, (1, 0)), between(0)]), [2, 0, 0, 0, 1])
        self.assertEqual(last_answer(ONE_ARROW + [part(3, (0, 0)), between(3)]), [1, 0, 1])
        self.assertEqual(last_answer(ONE_ARROW + [part(3, (1, 1)), between(3)]), [0])
        self.assertEqual(last_answer(ONE_ARROW + [part(4, (1, 1)), between(4)]), [1, 0, 0])
        self.assertEqual(last_answer(ONE_ARROW + [part(7, (1, 0)), between(7)]), [0])

    def test_of_none_and_of_all(self):
        self.assertEqual(answered([between(0), between(7)]), [[0], [0]])
        self.assertEqual(last_answer(ONE_ARROW + [between(0)]), [0])
        self.assertEqual(last_answer(ONE_ARROW + [part(0, (0, 0), (0, 1), (1, 1)), between(0)]), [0])

    def test_six_rows(self):
        before = IDEMPOTENT + [rows(1, 0, 6)] + [lead(1, 1, r, 2) for r in range(6)]
        self.assertEqual(last_answer(before + [part(7, (0, 2)), between(7)]), [5, 0, 0, 0, 1, 0, 3, 0, 4, 0, 5])
        self.assertEqual(last_answer(before + [part(7, (0, 4)), between(7)]), [4, 0, 0, 0, 1, 0, 3, 0, 5])

    def test_leaves_the_part(self):
        told = answered(ONE_ARROW + [part(0, (1, 0)), between(0), between(0)] + [shows(p) for p in range(8)])
        self.assertEqual(told[-10:], [[2, 0, 0, 0, 1]] * 2 + [[1, 1, 0]] + [[0]] * 7)

    def test_refuses_parts_that_there_are_not(self):
        for p in (8, 9, GREATEST):
            self.assertEqual(last_answer(ONE_ARROW + [between(p)]), [-2])
            self.assertEqual(last_answer(NO_CATEGORY + [between(p)]), [-2])

    def test_refuses_what_is_no_category_or_not_right(self):
        for p in (0, 3, 4, 7):
            self.assertEqual(last_answer(NO_CATEGORY + [between(p)]), [-6])
        for i in (0, 1):
            for before in not_right(i):
                told = answered(before + [between(4 * i), between(4 * i + 3), between(7 - 4 * i)])
                self.assertEqual(told[-3:], [[-6], [-6], [0]])


class ShowsTest(unittest.TestCase):
    def test_at_the_beginning_no_part_has_rows(self):
        self.assertEqual(answered([shows(p) for p in range(8)]), [[0]] * 8)

    def test_answers_the_part(self):
        for p in range(8):
            told = answered(ONE_ARROW + [part(p, (1, 1), (0, 0))] + [shows(q) for q in range(8)])
            having = [2, 0, 0, 1, 1] if p > 3 else [3, 0, 0, 1, 0, 1, 1]
            self.assertEqual(told[-8:], [having if q == p else [0] for q in range(8)])

    def test_six_rows(self):
        told = answered([rows(0, 0, 6), part(3, *[(0, r) for r in range(6)]), shows(3), shows(3)])
        self.assertEqual(told[-2:], [[6, 0, 0, 0, 1, 0, 2, 0, 3, 0, 4, 0, 5]] * 2)

    def test_refuses_parts_that_there_are_not(self):
        for p in (8, 9, 12, GREATEST):
            self.assertEqual(last_answer(ONE_ARROW + [shows(p)]), [-2])
            self.assertEqual(last_answer(NO_CATEGORY + [shows(p)]), [-2])

    def test_is_answered_where_it_is_no_category(self):
        self.assertEqual(answered(NO_CATEGORY + [check(0)] + [shows(p) for p in range(9)])[-10:],
                         [[-6]] + [[0]] * 8 + [[-2]])

    def test_is_answered_where_an_instance_is_not_right(self):
        for i in (0, 1):
            for before in not_right(i):
                told = answered(before + [check(i), shows(4 * i), shows(4 * i + 3), shows(4 - 4 * i), shows(8)])
                self.assertIn(told[-5][0], (1, 2))
                self.assertEqual(told[-4:], [[0], [0], [1, 1, 0], [-2]])

    def test_parts_have_no_rows_when_anything_of_their_instance_is_told(self):
        full = ONE_ARROW + [part(p, (1, 1)) for p in range(8)]
        for tell, left in (
            (start(2), ()), (arrow(0, 1), ()),
            (rows(0, 0, 2), (4, 5, 6, 7)), (rows(0, 1, 2), (4, 5, 6, 7)), (lead(0, 2, 0, 0), (4, 5, 6, 7)),
            (lead(0, 2, 0, 99), (4, 5, 6, 7)), (rows(1, 0, 1), (0, 1, 2, 3)), (lead(1, 2, 0, 1), (0, 1, 2, 3)),
        ):
            told = answered(full + [tell] + [shows(p) for p in range(8)])
            self.assertEqual(told[-8:], [[1, 1, 1] if p in left else [0] for p in range(8)], tell)


if __name__ == "__main__":
    unittest.main()
