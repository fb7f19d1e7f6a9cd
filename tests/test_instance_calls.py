"""rows, set, check: what they answer, what they leave, what they refuse (points 2, 3 and 4)."""

import unittest

from support import (
    GREATEST, IDEMPOTENT, ONE_ARROW, SWAP, answered, arrow, check, last_answer, lead, make, part, rows, seen, start,
)


class RowsTest(unittest.TestCase):
    def test_answers_how_many_rows_the_instance_has_then(self):
        told = answered([start(3), rows(0, 0, 1), rows(0, 2, 2), rows(0, 1, 3), rows(0, 2, 1), rows(0, 0, 0)])
        self.assertEqual(told[1:], [[1], [3], [6], [5], [4]])

    def test_instances_are_apart(self):
        told = answered([rows(0, 0, 6), rows(1, 0, 5), rows(0, 0, 2), rows(1, 0, 6)])
        self.assertEqual(told, [[6], [5], [2], [6]])

    def test_six_rows_and_seven(self):
        for i in (0, 1):
            self.assertEqual(answered([rows(i, 0, 6), rows(i, 0, 7)]), [[6], [-5]])
            told = answered([start(3), rows(i, 0, 2), rows(i, 1, 2), rows(i, 2, 3), rows(i, 2, 2), rows(i, 0, 3)])
            self.assertEqual(told[1:], [[2], [4], [-5], [6], [-5]])

    def test_the_rows_of_the_thing_itself_do_not_count_twice(self):
        self.assertEqual(answered([rows(0, 0, 6), rows(0, 0, 6), rows(0, 0, 4)]), [[6], [6], [4]])

    def test_refusals(self):
        self.assertEqual(last_answer([rows(2, 0, 1)]), [-2])
        self.assertEqual(last_answer([rows(GREATEST, 0, 1)]), [-2])
        self.assertEqual(last_answer([rows(1, 1, 1)]), [-1])
        self.assertEqual(last_answer([rows(0, GREATEST, 1)]), [-1])
        self.assertEqual(last_answer([rows(0, 0, GREATEST)]), [-5])

    def test_which_refusal_is_told_first(self):
        self.assertEqual(last_answer([rows(2, 1, 7)]), [-2])
        self.assertEqual(last_answer([rows(2, 1, 1)]), [-2])
        self.assertEqual(last_answer([rows(2, 0, 7)]), [-2])
        self.assertEqual(last_answer([rows(0, 1, 7)]), [-1])

    def test_forgets_where_rows_lead_from_the_thing_and_to_it(self):
        before = [start(3), arrow(0, 1), arrow(1, 2), arrow(0, 2), make(3, 4, 5),
                  rows(0, 0, 1), rows(0, 1, 1), rows(0, 2, 1), lead(0, 3, 0, 0), lead(0, 4, 0, 0), lead(0, 5, 0, 0)]
        asked = [lead(0, 3, 0, 0), lead(0, 4, 0, 0), lead(0, 5, 0, 0)]
        self.assertEqual(answered(before + asked)[-3:], [[0], [0], [0]])
        self.assertEqual(answered(before + [rows(0, 0, 1)] + asked)[-3:], [[99], [0], [99]])
        self.assertEqual(answered(before + [rows(0, 1, 1)] + asked)[-3:], [[99], [99], [0]])
        self.assertEqual(answered(before + [rows(0, 2, 1)] + asked)[-3:], [[0], [99], [99]])
        self.assertEqual(answered(before + [rows(1, 0, 1)] + asked)[-3:], [[0], [0], [0]])

    def test_forgets_arrows_from_the_thing_to_itself(self):
        before = IDEMPOTENT + [rows(0, 0, 2), lead(0, 1, 0, 0), lead(0, 1, 1, 0)]
        self.assertEqual(last_answer(before + [check(0)]), [0])
        self.assertEqual(last_answer(before + [rows(0, 0, 2), check(0)]), [1, 1, 0])
        self.assertEqual(answered(before + [rows(0, 0, 3), lead(0, 1, 2, 0), lead(0, 1, 0, 0)])[-2:], [[99], [99]])

    def test_rows_that_go_are_not_there_any_more(self):
        told = answered(ONE_ARROW + [rows(0, 0, 1), lead(0, 2, 1, 0), lead(0, 2, 0, 0)])
        self.assertEqual(told[-2:], [[-1], [99]])

    def test_empties_the_parts_of_its_instance_alone(self):
        before = [rows(0, 0, 3), rows(1, 0, 3)] + [part(p, (0, 1)) for p in range(8)]
        asked = [seen(p) for p in range(8)]
        full, none = [[1, 0, 1]], [[0]]
        self.assertEqual(answered(before + asked)[-8:], full * 8)
        self.assertEqual(answered(before + [rows(0, 0, 3)] + asked)[-8:], none * 4 + full * 4)
        self.assertEqual(answered(before + [rows(1, 0, 3)] + asked)[-8:], full * 4 + none * 4)


class SetTest(unittest.TestCase):
    BEFORE = [start(2), arrow(0, 1), rows(0, 0, 2), rows(0, 1, 2), rows(1, 0, 1)]

    def test_answers_where_the_row_led(self):
        told = answered(self.BEFORE + [lead(0, 2, 0, 1), lead(0, 2, 0, 0), lead(0, 2, 0, 0), lead(0, 2, 1, 1)])
        self.assertEqual(told[-4:], [[99], [1], [0], [99]])

    def test_instances_are_apart(self):
        told = answered(self.BEFORE + [lead(0, 2, 0, 1), lead(1, 2, 0, 0), lead(0, 2, 0, 0), lead(1, 2, 0, 1)])
        self.assertEqual(told[-4:], [[99], [99], [1], [0]])

    def test_98_is_told_and_99_takes_back_and_100_is_refused(self):
        told = answered(self.BEFORE + [lead(0, 2, 0, 98), lead(0, 2, 0, 100), lead(0, 2, 0, 99), lead(0, 2, 0, 99),
                                       lead(0, 2, 0, 1)])
        self.assertEqual(told[-5:], [[99], [-1], [98], [99], [99]])

    def test_98_is_no_row_and_99_is_not_told(self):
        before = self.BEFORE + [lead(0, 2, 0, 0), lead(0, 2, 1, 0)]
        self.assertEqual(last_answer(before + [check(0)]), [0])
        self.assertEqual(last_answer(before + [lead(0, 2, 1, 98), check(0)]), [2, 2, 1])
        self.assertEqual(last_answer(before + [lead(0, 2, 1, 99), check(0)]), [1, 2, 1])

    def test_refusals(self):
        for call, refusal in (
            (lead(2, 2, 0, 0), -2), (lead(GREATEST, 2, 0, 0), -2),
            (lead(0, 3, 0, 0), -3), (lead(0, GREATEST, 0, 0), -3),
            (lead(0, 0, 0, 0), -1), (lead(0, 1, 0, 0), -1),
            (lead(0, 2, 2, 0), -1), (lead(1, 2, 1, 0), -1), (lead(0, 2, GREATEST, 0), -1),
            (lead(0, 2, 0, 100), -1), (lead(0, 2, 0, GREATEST), -1),
        ):
            self.assertEqual(last_answer(self.BEFORE + [call]), [refusal], call)

    def test_which_refusal_is_told_first(self):
        for call, refusal in (
            (lead(2, 3, 0, 0), -2), (lead(2, 0, 9, 100), -2), (lead(2, 3, 9, 100), -2),
            (lead(0, 3, 0, 100), -3), (lead(0, 3, GREATEST, 0), -3),
        ):
            self.assertEqual(last_answer(self.BEFORE + [call]), [refusal], call)

    def test_empties_the_parts_of_its_instance_alone(self):
        before = ONE_ARROW + [part(p, (1, 1)) for p in range(8)]
        asked = [seen(p) for p in range(8)]
        full, none = [[1, 1, 1]], [[0]]
        self.assertEqual(answered(before + asked)[-8:], full * 8)
        self.assertEqual(answered(before + [lead(0, 2, 0, 0)] + asked)[-8:], none * 4 + full * 4)
        self.assertEqual(answered(before + [lead(1, 2, 0, 1)] + asked)[-8:], full * 4 + none * 4)


class CheckTest(unittest.TestCase):
    TRIANGLE = [start(3), arrow(0, 1), arrow(1, 2), arrow(0, 2), make(3, 4, 5)]

    def test_without_rows_it_is_right(self):
        self.assertEqual(answered([check(0), check(1)]), [[0], [0]])
        self.assertEqual(last_answer(self.TRIANGLE + [check(1)]), [0])

    def test_rows_with_no_arrows_are_right(self):
        self.assertEqual(last_answer([start(2), rows(1, 0, 3), rows(1, 1, 3), check(1)]), [0])

    def test_refusals(self):
        no_category = [start(1), arrow(0, 0)]
        self.assertEqual(last_answer([check(2)]), [-2])
        self.assertEqual(last_answer([check(GREATEST)]), [-2])
        self.assertEqual(last_answer(no_category + [check(0)]), [-6])
        self.assertEqual(last_answer(no_category + [check(1)]), [-6])
        self.assertEqual(last_answer(no_category + [check(2)]), [-2])

    def test_not_told_of_two_that_meet(self):
        before = [start(3), arrow(0, 1), arrow(1, 2), arrow(0, 2)]
        self.assertEqual(last_answer(before + [check(0)]), [-6])
        self.assertEqual(last_answer(before + [make(3, 4, 5), check(0)]), [0])

    def test_arrows_that_do_not_meet_need_nothing(self):
        self.assertEqual(last_answer([start(3), arrow(0, 1), arrow(0, 2), arrow(2, 1), check(0)]), [-6])
        self.assertEqual(last_answer([start(3), arrow(0, 1), arrow(0, 2), arrow(0, 1), check(0)]), [0])

    def test_what_two_make_begins_elsewhere(self):
        # 2 and 4 lead from 0 to 1, 3 from 1 to itself: 3 ends where 2 and 3 end, but begins elsewhere.
        before = [start(2), arrow(0, 1), arrow(1, 1), arrow(0, 1), make(3, 3, 3), make(4, 3, 4)]
        self.assertEqual(last_answer(before + [make(2, 3, 2), check(0)]), [0])
        self.assertEqual(last_answer(before + [make(2, 3, 3), check(0)]), [-6])

    def test_what_two_make_ends_elsewhere(self):
        before = [start(2), arrow(0, 0), arrow(0, 1), make(2, 2, 2)]
        self.assertEqual(last_answer(before + [make(2, 3, 3), check(0)]), [0])
        self.assertEqual(last_answer(before + [make(2, 3, 2), check(0)]), [-6])

    def test_three_that_meet(self):
        # Of 1 and 2, 1 with 1 makes 2 and all else makes 1: (1 1) 2 is 1, 1 (1 2) is 2.
        before = [start(1), arrow(0, 0), arrow(0, 0), make(1, 1, 2), make(1, 2, 1), make(2, 1, 1)]
        self.assertEqual(last_answer(before + [make(2, 2, 1), check(0)]), [-6])
        self.assertEqual(last_answer(before + [make(2, 2, 2), check(0)]), [0])

    def test_three_that_meet_of_which_two_make_a_things_own(self):
        # 1 and 1 make the thing's own; 1 with 2 makes 1, so that 1 (1 2) is the thing's own, and (1 1) 2 is 2.
        before = [start(1), arrow(0, 0), arrow(0, 0), make(1, 1, 0), make(2, 2, 2)]
        self.assertEqual(last_answer(before + [make(1, 2, 1), make(2, 1, 1), check(0)]), [-6])
        self.assertEqual(last_answer(before + [make(1, 2, 2), make(2, 1, 2), check(0)]), [0])

    def test_not_told(self):
        before = [start(2), arrow(0, 1), rows(0, 0, 2), rows(0, 1, 1)]
        self.assertEqual(last_answer(before + [check(0)]), [1, 2, 0])
        self.assertEqual(last_answer(before + [lead(0, 2, 0, 0), check(0)]), [1, 2, 1])
        self.assertEqual(last_answer(before + [lead(0, 2, 1, 0), check(0)]), [1, 2, 0])
        self.assertEqual(last_answer(before + [lead(0, 2, 0, 0), lead(0, 2, 1, 0), check(0)]), [0])

    def test_no_such_row(self):
        before = [start(2), arrow(0, 1), rows(1, 0, 2), rows(1, 1, 2), lead(1, 2, 0, 1)]
        self.assertEqual(last_answer(before + [lead(1, 2, 1, 1), check(1)]), [0])
        self.assertEqual(last_answer(before + [lead(1, 2, 1, 2), check(1)]), [2, 2, 1])
        self.assertEqual(last_answer(before + [lead(1, 2, 1, 98), check(1)]), [2, 2, 1])

    def test_leads_where_no_row_is(self):
        before = [start(2), arrow(0, 1), rows(0, 0, 1)]
        self.assertEqual(last_answer(before + [check(0)]), [1, 2, 0])
        self.assertEqual(last_answer(before + [lead(0, 2, 0, 0), check(0)]), [2, 2, 0])

    def test_faults_1_and_2_are_in_one_order(self):
        before = [start(2), arrow(0, 1), arrow(1, 0), make(2, 3, 0), make(3, 2, 1), rows(0, 0, 2), rows(0, 1, 2)]
        self.assertEqual(last_answer(before + [lead(0, 2, 0, 7), check(0)]), [2, 2, 0])
        self.assertEqual(last_answer(before + [lead(0, 2, 1, 7), check(0)]), [1, 2, 0])
        self.assertEqual(last_answer(before + [lead(0, 3, 0, 7), check(0)]), [1, 2, 0])
        told = [lead(0, 2, 0, 0), lead(0, 2, 1, 1)]
        self.assertEqual(last_answer(before + told + [lead(0, 3, 0, 7), check(0)]), [2, 3, 0])
        self.assertEqual(last_answer(before + told + [lead(0, 3, 1, 7), check(0)]), [1, 3, 0])

    def test_faults_1_and_2_come_before_3(self):
        # Row 0 goes astray along 1 and 1; row 2 isn't told, or leads to no row.
        before = IDEMPOTENT + [rows(0, 0, 3), lead(0, 1, 0, 1), lead(0, 1, 1, 0)]
        self.assertEqual(last_answer(before + [check(0)]), [1, 1, 2])
        self.assertEqual(last_answer(before + [lead(0, 1, 2, 3), check(0)]), [2, 1, 2])
        self.assertEqual(last_answer(before + [lead(0, 1, 2, 2), check(0)]), [3, 1, 1, 0])

    def test_leads_elsewhere_than_what_they_make(self):
        before = self.TRIANGLE + [rows(0, 0, 2), rows(0, 1, 1), rows(0, 2, 2), lead(0, 3, 0, 0), lead(0, 3, 1, 0),
                                  lead(0, 4, 0, 1)]
        for first, second, fault in ((1, 1, [0]), (0, 1, [3, 3, 4, 0]), (1, 0, [3, 3, 4, 1]), (0, 0, [3, 3, 4, 0])):
            told = answered(before + [lead(0, 5, 0, first), lead(0, 5, 1, second), check(0)])
            self.assertEqual(told[-1], fault)

    def test_a_things_own_arrow_is_made(self):
        before = SWAP + [rows(0, 0, 2)]
        self.assertEqual(last_answer(before + [lead(0, 1, 0, 1), lead(0, 1, 1, 0), check(0)]), [0])
        self.assertEqual(last_answer(before + [lead(0, 1, 0, 0), lead(0, 1, 1, 1), check(0)]), [0])
        self.assertEqual(last_answer(before + [lead(0, 1, 0, 0), lead(0, 1, 1, 0), check(0)]), [3, 1, 1, 1])

    def test_faults_3_are_by_the_first_then_the_second_then_the_row(self):
        # Two arrows, each of which makes itself with whatever is behind it: 1, 2 make 1; 2, 1 make 2.
        left = [start(1), arrow(0, 0), arrow(0, 0), make(1, 1, 1), make(1, 2, 1), make(2, 1, 2), make(2, 2, 2),
                rows(0, 0, 3)]

        def fault(along_1, along_2):
            told = [lead(0, 1, r, v) for r, v in enumerate(along_1)]
            told += [lead(0, 2, r, v) for r, v in enumerate(along_2)]
            return last_answer(left + told + [check(0)])

        self.assertEqual(fault([0, 0, 2], [0, 0, 2]), [0])
        self.assertEqual(fault([0, 0, 2], [0, 1, 0]), [3, 1, 2, 2])
        self.assertEqual(fault([0, 1, 1], [1, 1, 1]), [3, 1, 2, 0])
        self.assertEqual(fault([0, 1, 2], [0, 2, 2]), [3, 1, 2, 1])
        self.assertEqual(fault([2, 2, 2], [2, 0, 2]), [3, 2, 1, 1])
        self.assertEqual(fault([1, 2, 2], [1, 2, 2]), [3, 1, 1, 0])

    def test_instances_are_apart(self):
        told = answered(ONE_ARROW + [lead(1, 2, 0, 2), check(0), check(1)])
        self.assertEqual(told[-2:], [[0], [2, 2, 0]])


if __name__ == "__main__":
    unittest.main()
