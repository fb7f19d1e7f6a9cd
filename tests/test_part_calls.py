"""part, meet, join, implies, not: what they answer, what they leave, what they refuse (points 2, 4 and 5)."""

import unittest

from support import (
    GREATEST, IDEMPOTENT, ONE_ARROW, SWAP, answered, arrow, implies, join, last_answer, lead, meet, negate, part, rows,
    seen, shows, start,
)

TWO_OF_ONE = (meet, join, implies)

# Four rows of one thing in either instance, no arrow but its own.
FOUR = [rows(0, 0, 4), rows(1, 0, 4)]


class PartTest(unittest.TestCase):
    def test_rows_bring_what_they_lead_to(self):
        self.assertEqual(last_answer(ONE_ARROW + [part(0, (0, 0))]), [2, 0, 0, 1, 0])
        self.assertEqual(last_answer(ONE_ARROW + [part(0, (0, 1))]), [2, 0, 1, 1, 0])
        self.assertEqual(last_answer(ONE_ARROW + [part(0, (1, 0))]), [1, 1, 0])
        self.assertEqual(last_answer(ONE_ARROW + [part(0, (1, 1))]), [1, 1, 1])
        self.assertEqual(last_answer(ONE_ARROW + [part(4, (0, 0))]), [2, 0, 0, 1, 1])

    def test_rows_are_told_in_order(self):
        told = last_answer(ONE_ARROW + [part(1, (1, 1), (0, 1), (1, 0), (0, 0))])
        self.assertEqual(told, [4, 0, 0, 0, 1, 1, 0, 1, 1])

    def test_no_rows_bring_none(self):
        self.assertEqual(last_answer([part(0)]), [0])
        self.assertEqual(last_answer(ONE_ARROW + [part(7)]), [0])
        self.assertEqual(answered(ONE_ARROW + [part(0, (0, 0)), part(0), seen(0)])[-2:], [[0], [0]])

    def test_a_row_may_stand_there_twice(self):
        self.assertEqual(last_answer(ONE_ARROW + [part(2, (0, 0), (0, 0), (1, 0))]), [2, 0, 0, 1, 0])

    def test_sixty_numbers(self):
        given = [(0, k % 6) for k in range(30)]
        told = answered([rows(0, 0, 6), part(0, *given), seen(0)])
        self.assertEqual(told[1:], [[6, 0, 0, 0, 1, 0, 2, 0, 3, 0, 4, 0, 5]] * 2)
        self.assertEqual(last_answer([rows(0, 0, 6), part(0, *given[:29], (0, 6))]), [-1])

    def test_takes_what_was_there_before_away(self):
        told = answered(FOUR + [part(0, (0, 1)), part(0, (0, 3)), seen(0)])
        self.assertEqual(told[-2:], [[1, 0, 3], [1, 0, 3]])

    def test_each_part_is_apart(self):
        told = answered(FOUR + [part(p, (0, p % 4)) for p in range(8)] + [seen(p) for p in range(8)])
        self.assertEqual(told[-8:], [[1, 0, p % 4] for p in range(8)])

    def test_parts_3_and_4_are_of_instances_0_and_1(self):
        before = [rows(0, 0, 1), rows(1, 0, 2)]
        self.assertEqual(last_answer(before + [part(3, (0, 1))]), [-1])
        self.assertEqual(last_answer(before + [part(4, (0, 1))]), [1, 0, 1])
        self.assertEqual(last_answer(before + [part(7, (0, 1))]), [1, 0, 1])

    def test_refuses_parts_that_there_are_not(self):
        for p in (8, 9, GREATEST):
            self.assertEqual(last_answer(FOUR + [part(p)]), [-2])

    def test_refuses_what_is_no_category_or_not_right(self):
        self.assertEqual(last_answer([start(1), arrow(0, 0), part(0)]), [-6])
        for i in (0, 1):
            before = ONE_ARROW + [lead(i, 2, 0, 99)]
            self.assertEqual(last_answer(before + [part(4 * i)]), [-6])
            self.assertEqual(last_answer(before + [part(4 * i + 3)]), [-6])
            self.assertEqual(last_answer(before + [part(4 - 4 * i)]), [0])

    def test_refuses_rows_that_there_are_not(self):
        for row in ((0, 2), (1, 2), (2, 0), (GREATEST, 0), (0, GREATEST)):
            self.assertEqual(last_answer(ONE_ARROW + [part(0, row)]), [-1])
            self.assertEqual(last_answer(ONE_ARROW + [part(0, (0, 0), row, (0, 0))]), [-1])

    def test_which_refusal_is_told_first(self):
        self.assertEqual(last_answer([start(1), arrow(0, 0), part(8, (5, 5))]), [-2])
        self.assertEqual(last_answer([start(1), arrow(0, 0), part(0, (5, 5))]), [-6])
        self.assertEqual(last_answer(ONE_ARROW + [lead(0, 2, 0, 99), part(0, (5, 5))]), [-6])
        self.assertEqual(last_answer(ONE_ARROW + [part(8, (5, 5))]), [-2])


class MeetTest(unittest.TestCase):
    def test_has_the_rows_that_both_have(self):
        told = answered(FOUR + [part(0, (0, 0), (0, 1), (0, 3)), part(1, (0, 1), (0, 2), (0, 3)), meet(0, 1, 2),
                                seen(0), seen(1), seen(2)])
        self.assertEqual(told[-4:], [[2, 0, 1, 0, 3], [3, 0, 0, 0, 1, 0, 3], [3, 0, 1, 0, 2, 0, 3], [2, 0, 1, 0, 3]])

    def test_of_rows_that_lead_to_one(self):
        told = last_answer(ONE_ARROW + [part(0, (0, 0)), part(1, (0, 1)), meet(0, 1, 3)])
        self.assertEqual(told, [1, 1, 0])

    def test_into_one_of_the_two(self):
        before = FOUR + [part(5, (0, 0), (0, 1)), part(6, (0, 1), (0, 2))]
        self.assertEqual(answered(before + [meet(5, 6, 5), seen(5)])[-2:], [[1, 0, 1]] * 2)
        self.assertEqual(answered(before + [meet(5, 6, 6), seen(6)])[-2:], [[1, 0, 1]] * 2)


class JoinTest(unittest.TestCase):
    def test_has_the_rows_that_one_has(self):
        told = answered(FOUR + [part(0, (0, 3), (0, 1)), part(1, (0, 0), (0, 1)), join(0, 1, 2), seen(0), seen(1),
                                seen(2)])
        self.assertEqual(told[-4:], [[3, 0, 0, 0, 1, 0, 3], [2, 0, 1, 0, 3], [2, 0, 0, 0, 1], [3, 0, 0, 0, 1, 0, 3]])

    def test_into_one_of_the_two(self):
        before = FOUR + [part(4, (0, 2)), part(7, (0, 1))]
        self.assertEqual(answered(before + [join(4, 7, 7), seen(7), seen(4)])[-3:],
                         [[2, 0, 1, 0, 2], [2, 0, 1, 0, 2], [1, 0, 2]])

    def test_with_none(self):
        self.assertEqual(last_answer(FOUR + [part(0, (0, 2)), join(0, 1, 2)]), [1, 0, 2])
        self.assertEqual(last_answer(FOUR + [join(0, 1, 2)]), [0])


class ImpliesTest(unittest.TestCase):
    def test_without_arrows_it_is_the_rest_and_the_second(self):
        told = last_answer(FOUR + [part(0, (0, 0), (0, 1)), part(1, (0, 1)), implies(0, 1, 2)])
        self.assertEqual(told, [3, 0, 1, 0, 2, 0, 3])

    def test_what_leads_into_the_first_alone_is_out(self):
        # Rows (0, 0) and (0, 1) aren't in part 0, but lead into it.
        before = ONE_ARROW + [part(0, (1, 0))]
        self.assertEqual(last_answer(before + [implies(0, 1, 2)]), [1, 1, 1])
        self.assertEqual(last_answer(before + [part(1, (1, 1)), implies(0, 1, 2)]), [1, 1, 1])

    def test_what_leads_into_both_is_in(self):
        told = last_answer(ONE_ARROW + [part(0, (1, 0), (1, 1)), part(1, (1, 0)), implies(0, 1, 2)])
        self.assertEqual(told, [3, 0, 0, 0, 1, 1, 0])

    def test_each_arrow_counts(self):
        # Row (0, 0) leads into both along 2, but along 3 into the first one alone.
        before = [start(2), arrow(0, 1), arrow(0, 1), rows(0, 0, 2), rows(0, 1, 2), lead(0, 2, 0, 0),
                  lead(0, 3, 0, 1), lead(0, 2, 1, 0), lead(0, 3, 1, 0), part(0, (1, 0), (1, 1)), part(1, (1, 0))]
        self.assertEqual(last_answer(before + [implies(0, 1, 2)]), [2, 0, 1, 1, 0])

    def test_a_row_of_the_first_is_only_in_if_of_the_second(self):
        # Row (0, 0) leads into the second along 2, but is itself in the first one and not in the second.
        told = last_answer(ONE_ARROW + [part(0, (0, 0)), part(1, (1, 0)), implies(0, 1, 2)])
        self.assertEqual(told, [3, 0, 1, 1, 0, 1, 1])

    def test_where_rows_lead_to_one_another(self):
        before = SWAP + [rows(0, 0, 3), lead(0, 1, 0, 1), lead(0, 1, 1, 0), lead(0, 1, 2, 2)]
        self.assertEqual(last_answer(before + [part(0, (0, 0))]), [2, 0, 0, 0, 1])
        self.assertEqual(last_answer(before + [part(0, (0, 0)), implies(0, 1, 2)]), [1, 0, 2])

    def test_itself_is_all(self):
        self.assertEqual(last_answer(ONE_ARROW + [part(0, (0, 0)), implies(0, 0, 0)]), [4, 0, 0, 0, 1, 1, 0, 1, 1])
        self.assertEqual(last_answer(ONE_ARROW + [implies(5, 6, 7)]), [3, 0, 0, 1, 0, 1, 1])

    def test_into_one_of_the_two(self):
        before = FOUR + [part(0, (0, 0), (0, 1)), part(1, (0, 1))]
        for o in (0, 1):
            self.assertEqual(answered(before + [implies(0, 1, o), seen(o)])[-2:], [[3, 0, 1, 0, 2, 0, 3]] * 2)


class NotTest(unittest.TestCase):
    def test_without_arrows_it_is_the_rest(self):
        for given, told in (
            ((), [4, 0, 0, 0, 1, 0, 2, 0, 3]), (((0, 1),), [3, 0, 0, 0, 2, 0, 3]),
            (((0, 0), (0, 3)), [2, 0, 1, 0, 2]), (((0, 0), (0, 1), (0, 2), (0, 3)), [0]),
        ):
            self.assertEqual(last_answer(FOUR + [part(0, *given), negate(0, 1)]), told)

    def test_what_leads_into_it_is_out(self):
        self.assertEqual(last_answer(ONE_ARROW + [part(0, (1, 0)), negate(0, 3)]), [1, 1, 1])
        self.assertEqual(last_answer(ONE_ARROW + [part(0, (0, 0)), negate(0, 3)]), [1, 1, 1])
        self.assertEqual(last_answer(ONE_ARROW + [part(0, (1, 1)), negate(0, 3)]), [3, 0, 0, 0, 1, 1, 0])
        self.assertEqual(last_answer(ONE_ARROW + [part(7, (1, 1)), negate(7, 4)]), [1, 1, 0])
        self.assertEqual(last_answer(ONE_ARROW + [part(7, (1, 0)), negate(7, 4)]), [2, 0, 0, 1, 1])

    def test_of_none_and_of_all(self):
        self.assertEqual(answered([negate(0, 1), negate(4, 7)]), [[0], [0]])
        self.assertEqual(last_answer(ONE_ARROW + [negate(0, 1)]), [4, 0, 0, 0, 1, 1, 0, 1, 1])
        self.assertEqual(last_answer(ONE_ARROW + [negate(0, 1), negate(1, 2)]), [0])
        self.assertEqual(last_answer([rows(1, 0, 6), negate(4, 5)]), [6, 0, 0, 0, 1, 0, 2, 0, 3, 0, 4, 0, 5])

    def test_where_rows_lead_to_one_another(self):
        before = SWAP + [rows(0, 0, 3), lead(0, 1, 0, 1), lead(0, 1, 1, 0), lead(0, 1, 2, 2)]
        self.assertEqual(last_answer(before + [part(0, (0, 0)), negate(0, 1)]), [1, 0, 2])
        self.assertEqual(last_answer(before + [part(0, (0, 2)), negate(0, 1)]), [2, 0, 0, 0, 1])

    def test_twice_may_be_more(self):
        # Rows 0 and 1 of thing 0 lead into the part, and so does all to which they lead.
        told = answered(ONE_ARROW + [part(0, (1, 0)), negate(0, 1), negate(1, 2), negate(2, 3)])
        self.assertEqual(told[-3:], [[1, 1, 1], [3, 0, 0, 0, 1, 1, 0], [1, 1, 1]])

    def test_it_is_part_o_then(self):
        told = answered(FOUR + [part(5, (0, 0), (0, 1)), negate(5, 7), shows(4), shows(5), shows(6), shows(7)])
        self.assertEqual(told[-5:], [[2, 0, 2, 0, 3], [0], [2, 0, 0, 0, 1], [0], [2, 0, 2, 0, 3]])

    def test_into_itself(self):
        for p in range(8):
            self.assertEqual(answered(FOUR + [part(p, (0, 0), (0, 1)), negate(p, p), shows(p)])[-2:],
                             [[2, 0, 2, 0, 3]] * 2)

    def test_refuses_parts_that_there_are_not(self):
        for p, o in ((8, 0), (0, 8), (8, 4), (4, 8), (7, 8), (8, 7), (8, 8), (9, 9), (GREATEST, 0), (4, GREATEST)):
            self.assertEqual(last_answer(FOUR + [negate(p, o)]), [-2])

    def test_refuses_parts_of_two_instances(self):
        for p, o in ((3, 4), (4, 3), (0, 7), (7, 0), (0, 4), (4, 0)):
            self.assertEqual(last_answer(FOUR + [negate(p, o)]), [-2])
        for p, o in ((0, 3), (3, 0), (3, 3), (4, 7), (7, 4), (4, 4)):
            self.assertEqual(last_answer(FOUR + [negate(p, o)]), [4, 0, 0, 0, 1, 0, 2, 0, 3])

    def test_refuses_what_is_no_category_or_not_right(self):
        for p in (0, 3, 4, 7):
            self.assertEqual(last_answer([start(1), arrow(0, 0), negate(p, p)]), [-6])
        for i in (0, 1):
            for v in (99, 98, 2):
                before = ONE_ARROW + [lead(i, 2, 0, v)]
                self.assertEqual(last_answer(before + [negate(4 * i, 4 * i + 3)]), [-6])
                self.assertGreater(last_answer(before + [negate(4 - 4 * i, 7 - 4 * i)])[0], 2)

    def test_no_such_part_is_told_before_not_right(self):
        for p, o in ((8, 0), (0, 8), (0, 4), (4, 0), (GREATEST, GREATEST)):
            self.assertEqual(last_answer([start(1), arrow(0, 0), negate(p, o)]), [-2])


class TwoOfOneTest(unittest.TestCase):
    """What meet, join and implies refuse alike."""

    def test_parts_that_there_are_not(self):
        for call in TWO_OF_ONE:
            for numbers in ((8, 4, 4), (4, 8, 4), (4, 4, 8), (8, 8, 8), (GREATEST, 0, 0), (0, GREATEST, 0),
                            (0, 0, GREATEST)):
                self.assertEqual(last_answer(FOUR + [call(*numbers)]), [-2])

    def test_parts_of_two_instances(self):
        for call in TWO_OF_ONE:
            for numbers in ((3, 4, 4), (4, 3, 4), (4, 4, 3), (4, 3, 3), (3, 4, 3), (3, 3, 4)):
                self.assertEqual(last_answer(FOUR + [call(*numbers)]), [-2])

    def test_parts_of_one_instance(self):
        for call in TWO_OF_ONE:
            for numbers in ((0, 3, 1), (3, 0, 3), (4, 7, 5), (7, 4, 7)):
                self.assertGreaterEqual(last_answer(FOUR + [call(*numbers)])[0], 0)

    def test_what_is_no_category(self):
        for call in TWO_OF_ONE:
            for p in (0, 3, 4, 7):
                self.assertEqual(last_answer([start(1), arrow(0, 0), call(p, p, p)]), [-6])

    def test_an_instance_that_is_not_right(self):
        for call in TWO_OF_ONE:
            for i in (0, 1):
                before = IDEMPOTENT + [rows(i, 0, 2), lead(i, 1, 0, 1), lead(i, 1, 1, 0)]
                self.assertEqual(last_answer(before + [call(4 * i, 4 * i + 1, 4 * i + 2)]), [-6])
                self.assertEqual(last_answer(before + [call(4 - 4 * i, 4 - 4 * i, 7 - 4 * i)]), [0])

    def test_no_such_part_is_told_before_not_right(self):
        for call in TWO_OF_ONE:
            for numbers in ((8, 0, 0), (0, 8, 0), (0, 0, 8), (0, 4, 0), (4, 4, 0)):
                self.assertEqual(last_answer([start(1), arrow(0, 0), call(*numbers)]), [-2])


if __name__ == "__main__":
    unittest.main()
