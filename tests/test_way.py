"""way: maps, their order, the one that is chosen, what is refused (points 4 and 5)."""

import unittest

from impliedparts.category_calls import call_arrow, call_make, call_start
from impliedparts.instance_calls import call_check, call_rows, call_set, call_way
from impliedparts.lines import Line
from impliedparts.part_calls import call_implies, call_join, call_meet, call_part
from support import (
    GREATEST, IDEMPOTENT, ONE_ARROW, SWAP, answered, arrow, check, last_answer, lead, rows, start, way,
)


def all_maps(before):
    """The maps in order, each asked for in a line of its own, and what is answered behind the last."""
    found = []
    while True:
        answer = last_answer(before + [way(len(found))])
        if answer == [-3]:
            return found
        found.append(answer)


class WayTest(unittest.TestCase):
    def test_instances_without_rows_have_one_map(self):
        self.assertEqual(answered([way(0), way(1)]), [[1], [-3]])
        self.assertEqual(answered([rows(1, 0, 3), way(0), way(1)])[1:], [[1], [-3]])

    def test_there_is_no_map_to_no_rows(self):
        self.assertEqual(answered([rows(0, 0, 1), way(0), way(GREATEST)])[1:], [[-3], [-3]])

    def test_rows_without_arrows_go_anywhere(self):
        found = all_maps([rows(0, 0, 2), rows(1, 0, 3)])
        self.assertEqual(found, [[9, a, b] for a in range(3) for b in range(3)])

    def test_rows_go_to_rows_of_their_thing(self):
        found = all_maps([start(2), rows(0, 0, 1), rows(0, 1, 2), rows(1, 0, 3), rows(1, 1, 2)])
        self.assertEqual(found, [[12, a, b, c] for a in range(3) for b in range(2) for c in range(2)])

    def test_the_last_map_and_the_one_behind_it(self):
        before = [rows(0, 0, 6), rows(1, 0, 6)]
        self.assertEqual(last_answer(before + [way(0)]), [46656, 0, 0, 0, 0, 0, 0])
        self.assertEqual(last_answer(before + [way(6)]), [46656, 0, 0, 0, 0, 1, 0])
        self.assertEqual(last_answer(before + [way(46655)]), [46656, 5, 5, 5, 5, 5, 5])
        self.assertEqual(last_answer(before + [way(46656)]), [-3])
        self.assertEqual(last_answer(before + [way(GREATEST)]), [-3])

    def test_arrows_are_kept(self):
        # Row 0 of thing 1 goes where that row of thing 0 leads; row 1 of thing 1 is free.
        self.assertEqual(all_maps(ONE_ARROW), [[2, 0, 0, 1, 0], [2, 0, 0, 1, 1]])

    def test_an_arrow_back_to_an_earlier_thing_is_kept(self):
        before = [start(2), arrow(1, 0), rows(0, 0, 2), rows(0, 1, 1), lead(0, 2, 0, 1),
                  rows(1, 0, 2), rows(1, 1, 2), lead(1, 2, 0, 1), lead(1, 2, 1, 0)]
        self.assertEqual(all_maps(before), [[4, 0, 0, 1], [4, 0, 1, 0], [4, 1, 0, 1], [4, 1, 1, 0]])

    def test_an_arrow_to_its_own_thing_is_kept(self):
        swapped = [lead(0, 1, 0, 1), lead(0, 1, 1, 0)]
        before = SWAP + [rows(0, 0, 2)] + swapped + [rows(1, 0, 3), lead(1, 1, 0, 2), lead(1, 1, 1, 1),
                                                    lead(1, 1, 2, 0)]
        self.assertEqual(all_maps(before), [[3, 0, 2], [3, 1, 1], [3, 2, 0]])

    def test_a_row_that_stays_goes_to_one_that_stays(self):
        before = IDEMPOTENT + [rows(0, 0, 1), lead(0, 1, 0, 0), rows(1, 0, 3), lead(1, 1, 0, 1), lead(1, 1, 1, 1),
                               lead(1, 1, 2, 2)]
        self.assertEqual(all_maps(before), [[2, 1], [2, 2]])

    def test_there_may_be_no_map(self):
        before = SWAP + [rows(0, 0, 1), lead(0, 1, 0, 0), rows(1, 0, 2), lead(1, 1, 0, 1), lead(1, 1, 1, 0)]
        self.assertEqual(last_answer(before + [way(0)]), [-3])

    def test_refuses_what_is_no_category(self):
        self.assertEqual(last_answer([start(1), arrow(0, 0), way(0)]), [-6])

    def test_refuses_instances_that_are_not_right(self):
        for i in (0, 1):
            before = ONE_ARROW + [lead(i, 2, 0, 99)]
            self.assertEqual(answered(before + [check(1 - i), way(0)])[-2:], [[0], [-6]])
            self.assertEqual(last_answer(ONE_ARROW + [lead(i, 2, 0, 2), way(0)]), [-6])
        for i in (0, 1):
            before = IDEMPOTENT + [rows(i, 0, 2), lead(i, 1, 0, 1), lead(i, 1, 1, 0)]
            self.assertEqual(last_answer(before + [way(0)]), [-6])

    def test_not_right_is_told_before_no_such_map(self):
        self.assertEqual(last_answer([start(1), arrow(0, 0), way(GREATEST)]), [-6])
        self.assertEqual(last_answer(ONE_ARROW + [lead(1, 2, 0, 99), way(2)]), [-6])


class ChosenTest(unittest.TestCase):
    """Which map is chosen, as the line itself keeps it."""

    def chosen_line(self):
        line = Line()
        call_start(line, 2)
        call_arrow(line, 0, 0)
        call_make(line, 2, 2, 2)
        for i in (0, 1):
            call_rows(line, i, 0, 1)
            call_rows(line, i, 1, 2)
            call_set(line, i, 2, 0, 0)
        self.assertEqual(call_way(line, 2), [4, 0, 1, 0])
        return line

    def test_at_the_beginning_none_is_chosen(self):
        self.assertIsNone(Line().chosen)

    def test_the_map_that_is_told_is_chosen(self):
        line = self.chosen_line()
        self.assertEqual(line.chosen, [0, 1, 0])
        call_way(line, 1)
        self.assertEqual(line.chosen, [0, 0, 1])

    def test_a_refused_way_leaves_the_one_chosen(self):
        line = self.chosen_line()
        self.assertEqual(call_way(line, 4), [-3])
        self.assertEqual(line.chosen, [0, 1, 0])

    def test_telling_anything_leaves_none_chosen(self):
        for tell in (
            lambda line: call_start(line, 2),
            lambda line: call_arrow(line, 0, 1),
            lambda line: call_make(line, 2, 2, 2),
            lambda line: call_rows(line, 0, 1, 2),
            lambda line: call_rows(line, 1, 1, 2),
            lambda line: call_set(line, 0, 2, 0, 0),
            lambda line: call_set(line, 1, 2, 0, 99),
        ):
            line = self.chosen_line()
            self.assertGreaterEqual(tell(line)[0], 0)
            self.assertIsNone(line.chosen)

    def test_what_is_refused_or_only_asked_leaves_it_chosen(self):
        for ask in (
            lambda line: call_start(line, 4),
            lambda line: call_arrow(line, 0, 2),
            lambda line: call_make(line, 2, 2, 3),
            lambda line: call_rows(line, 0, 1, 6),
            lambda line: call_set(line, 1, 2, 0, 100),
            lambda line: call_check(line, 0),
            lambda line: call_part(line, 0, [1, 1]),
            lambda line: call_part(line, 4, [1, 2]),
            lambda line: call_meet(line, 0, 1, 2),
            lambda line: call_join(line, 4, 5, 6),
            lambda line: call_implies(line, 4, 5, 6),
        ):
            line = self.chosen_line()
            ask(line)
            self.assertEqual(line.chosen, [0, 1, 0])


if __name__ == "__main__":
    unittest.main()
