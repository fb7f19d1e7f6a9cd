"""forward, back, forAll: what they answer, what they leave, what they refuse (points 2 and 4)."""

import unittest

from support import (
    GREATEST, IDEMPOTENT, ONE_ARROW, answered, arrow, back, check, for_all, forward, last_answer, lead, make, part,
    rows, seen, shows, start, truth, way, within,
)

ALONG = (forward, back, for_all)

# Both maps of ONE_ARROW take rows 0, 1 of thing 0 to row 0, and row 0 of thing 1 to row 1;
# row 1 of thing 1 goes to row 0 or to row 1.
APART = ONE_ARROW + [way(0)]
TOGETHER = ONE_ARROW + [way(1)]

# Three rows of one thing that go to 1, 1, 3 of four: 0 and 2 are reached by none.
PLAIN = [rows(0, 0, 3), rows(1, 0, 4), way(1 * 16 + 1 * 4 + 3)]


def fitting(call, p, o):
    """The call with part p of the instance that it begins at, part o of the other one, both from 0 to 3."""
    return call(p + 4, o) if call == back else call(p, o + 4)


class ForwardTest(unittest.TestCase):
    def test_has_the_rows_to_which_some_are_taken(self):
        self.assertEqual(answered(PLAIN)[-1], [64, 1, 1, 3])
        for given, told in (
            ([], [0]), ([0], [1, 0, 1]), ([1], [1, 0, 1]), ([0, 1], [1, 0, 1]), ([2], [1, 0, 3]),
            ([1, 2], [2, 0, 1, 0, 3]),
        ):
            calls = PLAIN + [part(0, *[(0, r) for r in given]), forward(0, 4), shows(4)]
            self.assertEqual(answered(calls)[-2:], [told, told])

    def test_with_an_arrow(self):
        self.assertEqual(last_answer(APART + [part(0, (0, 0)), forward(0, 4)]), [2, 0, 0, 1, 1])
        self.assertEqual(last_answer(APART + [part(0, (1, 0), (1, 1)), forward(0, 4)]), [2, 1, 0, 1, 1])
        self.assertEqual(last_answer(TOGETHER + [part(0, (1, 0), (1, 1)), forward(0, 4)]), [1, 1, 1])

    def test_rows_are_told_in_order(self):
        # The map takes 0, 1, 2 to 2, 1, 0.
        before = [rows(0, 0, 3), rows(1, 0, 3), way(2 * 9 + 1 * 3 + 0)]
        told = answered(before + [part(0, (0, 0), (0, 2)), forward(0, 4)])
        self.assertEqual(told[-3:], [[27, 2, 1, 0], [2, 0, 0, 0, 2], [2, 0, 0, 0, 2]])


class BackTest(unittest.TestCase):
    def test_has_the_rows_that_are_taken_into_it(self):
        for given, told in (
            ([], [0]), ([0], [0]), ([1], [2, 0, 0, 0, 1]), ([2], [0]), ([3], [1, 0, 2]), ([0, 3], [1, 0, 2]),
            ([1, 3], [3, 0, 0, 0, 1, 0, 2]),
        ):
            calls = PLAIN + [part(4, *[(0, r) for r in given]), back(4, 0), shows(0)]
            self.assertEqual(answered(calls)[-2:], [told, told])

    def test_with_an_arrow(self):
        self.assertEqual(last_answer(APART + [part(4, (1, 1)), back(4, 0)]), [1, 1, 0])
        self.assertEqual(last_answer(TOGETHER + [part(4, (1, 1)), back(4, 0)]), [2, 1, 0, 1, 1])
        self.assertEqual(last_answer(APART + [part(4, (1, 0)), back(4, 0)]), [1, 1, 1])
        self.assertEqual(last_answer(TOGETHER + [part(4, (1, 0)), back(4, 0)]), [0])
        self.assertEqual(last_answer(APART + [part(4, (0, 0)), back(4, 0)]), [3, 0, 0, 0, 1, 1, 0])


class ForAllTest(unittest.TestCase):
    def test_has_the_rows_to_which_none_but_these_are_taken(self):
        # Rows 0 and 2, to which none are taken, are always there; row 1 only with both that go there.
        for given, told in (
            ([], [2, 0, 0, 0, 2]), ([0], [2, 0, 0, 0, 2]), ([0, 1], [3, 0, 0, 0, 1, 0, 2]),
            ([2], [3, 0, 0, 0, 2, 0, 3]), ([1, 2], [3, 0, 0, 0, 2, 0, 3]),
            ([0, 1, 2], [4, 0, 0, 0, 1, 0, 2, 0, 3]),
        ):
            calls = PLAIN + [part(0, *[(0, r) for r in given]), for_all(0, 4), shows(4)]
            self.assertEqual(answered(calls)[-2:], [told, told])

    def test_each_arrow_counts(self):
        # All that's taken to row 0 of thing 0 is in the part; of what is taken to where that leads, by the second map
        # not all is.
        given = part(0, (0, 0), (0, 1))
        self.assertEqual(last_answer(APART + [given, for_all(0, 4)]), [2, 0, 0, 1, 1])
        self.assertEqual(last_answer(TOGETHER + [given, for_all(0, 4)]), [1, 1, 0])

    def test_the_things_own_arrow_counts(self):
        # Where row 0 of thing 0 leads along the arrow all is in the part, but not all that's taken to itself.
        self.assertEqual(last_answer(APART + [part(0, (1, 0)), for_all(0, 4)]), [1, 1, 1])
        self.assertEqual(last_answer(APART + [part(0, (0, 1)), for_all(0, 4)]), [1, 1, 1])

    def test_of_no_rows(self):
        self.assertEqual(last_answer(APART + [for_all(0, 4)]), [0])
        self.assertEqual(last_answer(TOGETHER + [for_all(0, 4)]), [1, 1, 0])
        self.assertEqual(last_answer([rows(1, 0, 2), way(0), for_all(0, 4)]), [2, 0, 0, 0, 1])

    def test_a_row_that_leads_to_one_that_is_missed(self):
        # Nothing is taken to row 0, but it leads to row 1, to which a row is taken that isn't in the part.
        before = IDEMPOTENT + [rows(0, 0, 1), lead(0, 1, 0, 0), rows(1, 0, 3), lead(1, 1, 0, 1), lead(1, 1, 1, 1),
                               lead(1, 1, 2, 2), way(0)]
        self.assertEqual(answered(before + [for_all(0, 4)])[-2:], [[2, 1], [1, 0, 2]])
        self.assertEqual(last_answer(before + [part(0, (0, 0)), for_all(0, 4)]), [3, 0, 0, 0, 1, 0, 2])


class AlongTest(unittest.TestCase):
    """What forward, back and forAll have in common."""

    def test_instances_without_rows(self):
        for call in ALONG:
            self.assertEqual(answered([way(0), fitting(call, 0, 0)]), [[1], [0]])
        self.assertEqual(answered([rows(1, 0, 6), way(0), forward(0, 4), part(4, (0, 5)), back(4, 0)])[-3:],
                         [[0], [1, 0, 5], [0]])
        self.assertEqual(last_answer([rows(1, 0, 6), way(0), for_all(0, 4)]), [6, 0, 0, 0, 1, 0, 2, 0, 3, 0, 4, 0, 5])

    def test_instances_with_six_rows(self):
        # 0, 1, 2, 3, 4, 5 go to 5, 4, 3, 2, 1, 0.
        number = 0
        for v in (5, 4, 3, 2, 1, 0):
            number = 6 * number + v
        before = [rows(0, 0, 6), rows(1, 0, 6), way(number), part(3, (0, 0), (0, 1), (0, 4)), part(7, (0, 5), (0, 2))]
        told = answered(before + [forward(3, 4), for_all(3, 5), back(7, 0)])
        self.assertEqual(told[2], [46656, 5, 4, 3, 2, 1, 0])
        self.assertEqual(told[-3:], [[3, 0, 1, 0, 4, 0, 5], [3, 0, 1, 0, 4, 0, 5], [2, 0, 0, 0, 3]])

    def test_each_part_can_be_either_one(self):
        for call in ALONG:
            for p in range(4):
                for o in range(4):
                    begin = 4 if call == back else 0
                    calls = [rows(0, 0, 2), rows(1, 0, 2), way(1), part(begin + p, (0, 1)), fitting(call, p, o),
                             shows(4 - begin + o), shows(begin + p)]
                    self.assertEqual(answered(calls)[-3:], [[1, 0, 1]] * 3)

    def test_the_map_that_is_chosen_last_counts(self):
        before = [rows(0, 0, 1), rows(1, 0, 3), part(0, (0, 0)), way(2), way(1)]
        self.assertEqual(last_answer(before + [forward(0, 4)]), [1, 0, 1])
        self.assertEqual(last_answer(before + [way(3), forward(0, 4)]), [1, 0, 1])

    def test_parts_stay_when_a_map_is_chosen(self):
        told = answered(ONE_ARROW + [part(0, (0, 0)), part(4, (1, 1)), way(1), shows(0), shows(4)])
        self.assertEqual(told[-2:], [[2, 0, 0, 1, 0], [1, 1, 1]])

    def test_refuses_parts_that_there_are_not(self):
        for call in ALONG:
            begin = 4 if call == back else 0
            for wrong in (8, 9, 11, 12, GREATEST):
                self.assertEqual(last_answer(PLAIN + [call(wrong, 4 - begin)]), [-2])
                self.assertEqual(last_answer(PLAIN + [call(begin, wrong)]), [-2])
                self.assertEqual(last_answer(PLAIN + [call(wrong, wrong)]), [-2])

    def test_refuses_parts_of_the_wrong_instance(self):
        for call in (forward, for_all):
            for p, o in ((4, 4), (7, 4), (4, 0), (7, 3), (4, 3), (0, 0), (0, 3), (3, 3), (0, 8), (8, 4)):
                self.assertEqual(last_answer(PLAIN + [call(p, o)]), [-2])
            for p, o in ((0, 4), (3, 4), (0, 7), (3, 7)):
                self.assertGreaterEqual(last_answer(PLAIN + [call(p, o)])[0], 0)
        for p, o in ((0, 0), (3, 0), (0, 4), (3, 7), (3, 4), (4, 4), (4, 7), (7, 7), (4, 8), (8, 0)):
            self.assertEqual(last_answer(PLAIN + [back(p, o)]), [-2])
        for p, o in ((4, 0), (4, 3), (7, 0), (7, 3)):
            self.assertGreaterEqual(last_answer(PLAIN + [back(p, o)])[0], 0)

    def test_refuses_if_no_map_is_chosen(self):
        for call in ALONG:
            self.assertEqual(answered([fitting(call, 0, 0)]), [[-6]])
            self.assertEqual(last_answer(ONE_ARROW + [fitting(call, 3, 3)]), [-6])
            # A way that is refused chooses none.
            self.assertEqual(last_answer(ONE_ARROW + [way(2), fitting(call, 0, 0)]), [-6])
            self.assertEqual(last_answer(ONE_ARROW + [way(GREATEST), fitting(call, 0, 0)]), [-6])

    def test_parts_are_told_before_no_map(self):
        for call in ALONG:
            begin = 4 if call == back else 0
            for p, o in ((8, 4 - begin), (begin, 8), (4 - begin, begin), (begin, begin), (4 - begin, 4 - begin)):
                self.assertEqual(last_answer([call(p, o)]), [-2])
                self.assertEqual(last_answer([start(1), arrow(0, 0), call(p, o)]), [-2])


class ChosenTest(unittest.TestCase):
    """Whether a map is chosen shows where a part is taken along it."""

    BEFORE = [
        start(2), arrow(0, 0), make(2, 2, 2), rows(0, 0, 1), rows(0, 1, 2), lead(0, 2, 0, 0),
        rows(1, 0, 1), rows(1, 1, 2), lead(1, 2, 0, 0), part(1, (1, 0)), part(5, (1, 0)), way(2),
    ]

    def along(self, *calls):
        """What the three answer behind these calls."""
        return answered(self.BEFORE + list(calls) + [forward(1, 6), back(5, 2), for_all(1, 7)])[-3:]

    def test_the_map_told_is_taken(self):
        self.assertEqual(answered(self.BEFORE)[-1], [4, 0, 1, 0])
        self.assertEqual(self.along(), [[1, 1, 1], [1, 1, 1], [1, 1, 1]])
        self.assertEqual(self.along(way(1)), [[1, 1, 0], [1, 1, 0], [1, 1, 0]])

    def test_telling_anything_of_either_instance_leaves_none(self):
        for tell in (
            start(2), start(1), arrow(0, 1), make(2, 2, 2), make(2, 2, 0), rows(0, 1, 2), rows(1, 1, 2), rows(0, 1, 1),
            rows(1, 0, 0), lead(0, 2, 0, 0), lead(1, 2, 0, 0), lead(0, 2, 0, 99), lead(1, 2, 0, 98),
        ):
            self.assertEqual(self.along(tell), [[-6], [-6], [-6]], tell)

    def test_told_anew_it_can_be_chosen_again(self):
        # What is told of instance 0 leaves the parts of 1, and the other way round.
        self.assertEqual(self.along(lead(0, 2, 0, 0), way(2)), [[0], [1, 1, 1], [0]])
        self.assertEqual(self.along(lead(1, 2, 0, 0), way(2)), [[1, 1, 1], [0], [1, 1, 1]])

    def test_what_is_refused_leaves_it(self):
        for call in (
            start(0), start(4), arrow(0, 2), make(2, 2, 3), make(0, 2, 2), rows(2, 0, 1), rows(0, 2, 1), rows(0, 1, 6),
            lead(2, 2, 0, 0), lead(0, 3, 0, 0), lead(0, 0, 0, 0), lead(1, 2, 0, 100), way(4), way(GREATEST),
            part(8), forward(4, 0), back(0, 4), for_all(0, 3),
        ):
            self.assertEqual(answered(self.BEFORE + [call])[-1][0] < 0, True, call)
            self.assertEqual(self.along(call), [[1, 1, 1], [1, 1, 1], [1, 1, 1]], call)

    def test_what_is_only_asked_or_told_of_parts_leaves_it(self):
        for call in (check(0), check(1), part(0, (0, 0)), part(4), seen(1), truth(1, 0, 0), within(0, 1), shows(7),
                     forward(0, 4), back(4, 0), for_all(0, 4)):
            self.assertEqual(self.along(call), [[1, 1, 1], [1, 1, 1], [1, 1, 1]], call)


if __name__ == "__main__":
    unittest.main()
