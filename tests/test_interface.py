"""The interface: one list in, one list out, and nothing kept or changed on the way."""

import contextlib
import io
import unittest

import impliedparts
import impliedparts.instances
from impliedparts.instances import answers
from support import (
    GREATEST, ONE_ARROW, answered, arrow, back, between, check, count, for_all, forward, implies, join, lead, make,
    meet, negate, nth, part, rows, seen, shows, sieves, split_answers, start, truth, way, within,
)


def one_list(calls):
    return [number for call in calls for number in call]


# Every call of these, with answers of every form.
EVERY_CALL = ONE_ARROW + [
    check(0), check(1), way(1), part(0, (0, 0), (1, 1)), part(1), meet(0, 1, 2), join(0, 1, 3), implies(0, 1, 2),
    negate(3, 1), forward(0, 4), back(4, 1), for_all(0, 5), within(0, 1), count(1), nth(2, 6), truth(2, 0, 1),
    sieves(0), between(2), shows(2),
    check(2), lead(0, 2, 0, 1), check(0), lead(0, 2, 0, 7), check(0), make(2, 2, 2), start(0),
]


class FormTest(unittest.TestCase):
    def test_each_answer_stands_behind_its_count(self):
        self.assertEqual(answers([0, 2]), [1, 2])
        self.assertEqual(answers([0, 4]), [1, -1])
        told = answers([0, 2, 1, 0, 1, 3, 0, 0, 1, 5, 0, 3, 0, 1, 1, 4, 0, 2, 0, 0, 7, 3, 2, 0, 0, 6, 0, 5, 0])
        self.assertEqual(told, [1, 2, 1, 2, 1, 1, 3, 1, 2, 0, 1, 2, 1, 99, 5, 2, 0, 0, 1, 0, 1, -3, 1, 0])

    def test_numbers_of_the_calls(self):
        self.assertEqual(split_answers(answers(one_list(EVERY_CALL))), [
            [2], [2], [2], [4], [99], [99], [1], [3], [99],
            [0], [0], [2, 0, 0, 1, 1], [3, 0, 0, 1, 0, 1, 1], [0], [0], [3, 0, 0, 1, 0, 1, 1], [0],
            [0], [2, 0, 0, 1, 1], [4, 0, 0, 0, 1, 1, 0, 1, 1], [2, 1, 0, 1, 1], [1], [6], [2, 0, 0, 1, 0], [1, 2],
            [3], [1, 0, 1], [2, 0, 0, 1, 0],
            [-2], [0], [0], [1], [2, 2, 0], [-1], [-1],
        ])

    def test_how_many_numbers_each_call_has(self):
        # Each call stands between two that tell whether the list is read on at the right place.
        calls = [[11, 0, 1], [12, 0, 4], [13, 4, 0], [14, 0, 4], [15, 1, 0], [16, 0], [17, 0, 1], [18, 0, 0, 0],
                 [19, 0], [20, 0], [21, 0]]
        told = [[1, 0, 0], [-6], [-6], [-6], [0], [2], [1, 0, 0], [1, 0], [2], [0], [1, 0, 0]]
        numbers = [3, 0, 0, 1]
        expected = [1, 1]
        for call, answer in zip(calls, told):
            numbers += call + [5, 0]
            expected += [len(answer)] + answer + [1, 0]
        self.assertEqual(answers(numbers), expected)

    def test_part_without_numbers_and_a_call_behind_it(self):
        self.assertEqual(answers([7, 0, 0, 7, 4, 0, 5, 0]), [1, 0, 1, 0, 1, 0])

    def test_a_refused_part_is_passed_over_whole(self):
        self.assertEqual(answers([7, 8, 4, 5, 0, 5, 0, 0, 3]), [1, -2, 1, 3])

    def test_whole_numbers_in_a_list(self):
        told = answers(one_list(EVERY_CALL))
        self.assertIs(type(told), list)
        self.assertEqual({type(number) for number in told}, {int})

    def test_the_longest_list(self):
        given = [(0, k % 6) for k in range(30)]
        calls = [rows(0, 0, 6)] + [part(0, *given)] * 39
        self.assertEqual(answered(calls), [[6]] + [[6, 0, 0, 0, 1, 0, 2, 0, 3, 0, 4, 0, 5]] * 39)
        calls = [part(0, *given)] * 40
        self.assertEqual(len(one_list(calls)), 2520)
        self.assertEqual(answered(calls), [[-1]] * 40)

    def test_great_numbers_are_refused_everywhere(self):
        g = GREATEST
        told = answered([
            start(g), arrow(g, g), make(g, g, g), rows(g, g, g), lead(g, g, g, g), check(g), way(g), part(g, (g, g)),
            meet(g, g, g), join(g, g, g), implies(g, g, g), part(0, (g, g)), rows(0, 0, g), lead(0, g, g, g),
        ])
        self.assertEqual(told, [[-1], [-1], [-3], [-2], [-2], [-2], [-3], [-2], [-2], [-2], [-2], [-1], [-5], [-3]])
        told = answered([
            negate(g, g), forward(g, g), back(g, g), for_all(g, g), within(g, g), count(g), nth(g, g), truth(g, g, g),
            sieves(g), between(g), shows(g), nth(0, g), truth(4, g, g), truth(4, 0, g), truth(4, g, 0), negate(0, g),
            forward(0, g), back(4, g), for_all(g, 4), within(g, 7),
        ])
        self.assertEqual(told, [[-2]] * 8 + [[-1], [-2], [-2], [-3], [-1], [-1], [-1]] + [[-2]] * 5)


class NothingKeptTest(unittest.TestCase):
    def test_what_is_handed_in_stays_as_it_was(self):
        calls = one_list(EVERY_CALL)
        before = list(calls)
        answers(calls)
        self.assertEqual(calls, before)

    def test_what_is_handed_in_is_not_changed_for_a_while_either(self):
        class Watched(list):
            def refuse(self, *given):
                raise AssertionError("the list that is handed in is changed")

            __setitem__ = __delitem__ = __iadd__ = __imul__ = refuse
            append = extend = insert = pop = remove = clear = sort = reverse = refuse

        self.assertEqual(answers(Watched(one_list(EVERY_CALL))), answers(one_list(EVERY_CALL)))

    def test_a_second_time_is_as_the_first(self):
        calls = one_list(EVERY_CALL)
        first = answers(calls)
        self.assertEqual(answers(calls), first)
        answers(one_list([start(3), arrow(0, 1), rows(0, 0, 3), rows(1, 2, 4)]))
        self.assertEqual(answers(calls), first)
        self.assertEqual(answered([rows(0, 0, 0), rows(1, 0, 0), rows(0, 1, 0), arrow(0, 0)]), [[0], [0], [-1], [1]])

    def test_what_is_given_back_is_not_kept(self):
        calls = one_list(EVERY_CALL)
        first = answers(calls)
        again = list(first)
        first.clear()
        self.assertEqual(answers(calls), again)

    def test_prints_nothing(self):
        out = io.StringIO()
        with contextlib.redirect_stdout(out), contextlib.redirect_stderr(out):
            answers(one_list(EVERY_CALL))
        self.assertEqual(out.getvalue(), "")

    def test_names(self):
        self.assertIs(impliedparts.instances.answers, answers)


class AsItWasTest(unittest.TestCase):
    """What is refused changes nothing: all that shows later is as if it hadn't been asked."""

    # A square of an arrow of thing 0, one from 0 to 1, rows of both instances, parts of both.
    BEFORE = [
        start(2), arrow(0, 0), arrow(0, 1), make(2, 2, 2), make(2, 3, 3),
        rows(0, 0, 2), rows(0, 1, 2), lead(0, 2, 0, 1), lead(0, 2, 1, 1), lead(0, 3, 0, 0), lead(0, 3, 1, 0),
        rows(1, 0, 1), rows(1, 1, 1), lead(1, 2, 0, 0), lead(1, 3, 0, 0),
        part(0, (0, 1)), part(1, (1, 1)), part(2, (0, 0)), part(3, (1, 0)), part(4, (0, 0)), part(7, (1, 0)), way(0),
    ]
    ASKED = [shows(p) for p in range(8)] + [
        back(7, 3), check(0), check(1), lead(0, 2, 0, 99), lead(0, 3, 1, 99), lead(1, 3, 0, 99), rows(0, 0, 0),
        rows(1, 0, 0), arrow(1, 1),
    ]
    REFUSED = (
        (start(0), -1), (start(4), -1),
        (arrow(2, 0), -1), (arrow(0, 2), -1),
        (make(2, 2, 4), -3), (make(4, 2, 2), -3), (make(0, 2, 2), -1), (make(2, 1, 2), -1), (make(3, 2, 2), -1),
        (rows(2, 0, 1), -2), (rows(0, 2, 1), -1), (rows(0, 0, 5), -5), (rows(1, 1, 6), -5),
        (lead(2, 2, 0, 0), -2), (lead(0, 4, 0, 0), -3), (lead(0, 0, 0, 0), -1), (lead(0, 2, 2, 0), -1),
        (lead(1, 2, 0, 100), -1),
        (check(2), -2), (way(1), -3), (way(GREATEST), -3),
        (part(8, (0, 0)), -2), (part(0, (0, 0), (0, 2)), -1), (part(4, (1, 1)), -1), (part(7, (2, 0)), -1),
        (meet(0, 1, 8), -2), (meet(0, 1, 4), -2), (join(4, 7, 3), -2), (join(0, 4, 1), -2), (implies(8, 0, 0), -2),
        (implies(0, 1, 7), -2),
        (negate(8, 0), -2), (negate(0, 8), -2), (negate(2, 4), -2), (negate(7, 3), -2),
        (forward(4, 4), -2), (forward(2, 3), -2), (forward(8, 4), -2), (forward(0, 8), -2),
        (back(0, 1), -2), (back(4, 7), -2), (back(8, 0), -2), (back(4, 8), -2),
        (for_all(4, 4), -2), (for_all(2, 3), -2), (for_all(8, 4), -2), (for_all(0, 8), -2),
        (within(0, 4), -2), (within(8, 4), -2), (count(2), -2),
        (nth(8, 0), -2), (nth(0, 8), -3), (nth(7, GREATEST), -3),
        (truth(8, 0, 0), -2), (truth(0, 0, 2), -1), (truth(7, 2, 0), -1), (sieves(2), -1), (sieves(GREATEST), -1),
        (between(8), -2), (shows(8), -2),
    )
    # These only ask, or put a part that is so already.
    ASKING = (
        check(0), check(1), way(0), within(0, 2), count(0), count(1), truth(2, 0, 0), truth(4, 1, 0), sieves(0),
        sieves(1), between(0), between(3), between(7), shows(1), shows(4), meet(2, 2, 2), nth(5, 0), forward(3, 7),
    )

    def test_ordinary_refusals(self):
        expected = answered(self.BEFORE + self.ASKED)[len(self.BEFORE):]
        self.assertEqual(expected[:8], [
            [2, 0, 1, 1, 0], [1, 1, 1], [3, 0, 0, 0, 1, 1, 0], [1, 1, 0], [2, 0, 0, 1, 0], [0], [0], [1, 1, 0],
        ])
        for call, refusal in self.REFUSED:
            told = answered(self.BEFORE + [call] + self.ASKED)[len(self.BEFORE):]
            self.assertEqual(told, [[refusal]] + expected, call)

    def test_what_is_only_asked(self):
        expected = answered(self.BEFORE + self.ASKED)[len(self.BEFORE):]
        for call in self.ASKING:
            told = answered(self.BEFORE + [call] + self.ASKED)[len(self.BEFORE):]
            self.assertGreaterEqual(told[0][0], 0, call)
            self.assertEqual(told[1:], expected, call)

    def test_a_ninth_arrow(self):
        before = [start(1)] + [arrow(0, 0)] * 7 + [rows(0, 0, 2), lead(0, 7, 1, 5)]
        asked = [lead(0, 7, 1, 5), rows(0, 0, 2)]
        self.assertEqual(answered(before + [arrow(0, 0)] + asked)[-3:], [[-5], [5], [2]])

    def test_refusals_of_what_is_no_category(self):
        before = [start(1), arrow(0, 0), rows(0, 0, 2), lead(0, 1, 1, 1)]
        for call in (check(0), way(0), part(0, (0, 0)), meet(0, 0, 0), join(0, 0, 0), implies(4, 4, 4), negate(0, 0),
                     forward(0, 4), back(4, 0), for_all(0, 4), count(0), nth(0, 0), truth(0, 0, 0), sieves(0),
                     between(0)):
            told = answered(before + [call, lead(0, 1, 1, 0), lead(0, 1, 0, 0), rows(0, 0, 2)])
            self.assertEqual(told[-4:], [[-6], [1], [99], [2]])

    def test_refusals_of_what_is_not_right(self):
        # Part 4 of instance 1 stays while instance 0 isn't right.
        before = ONE_ARROW + [part(4, (1, 0)), lead(0, 2, 0, 9)]
        for call in (way(0), part(0, (0, 0)), meet(0, 0, 0), join(0, 0, 0), implies(0, 0, 0), negate(0, 1),
                     forward(0, 4), back(4, 0), for_all(0, 4), count(0), nth(0, 0), truth(0, 0, 0), between(0)):
            told = answered(before + [call, seen(4), check(0), lead(0, 2, 0, 0)])
            self.assertEqual(told[-4:], [[-6], [1, 1, 0], [2, 2, 0], [9]])

    def test_refusals_where_no_map_is_chosen(self):
        before = ONE_ARROW + [part(0, (0, 0)), part(1, (1, 1)), part(4, (1, 0)), part(5, (1, 1))]
        asked = [shows(p) for p in range(8)]
        for call in (forward(0, 4), forward(1, 5), back(4, 0), back(5, 1), for_all(0, 4), for_all(1, 5)):
            told = answered(before + [call] + asked)
            self.assertEqual(told[-9:], [[-6], [2, 0, 0, 1, 0], [1, 1, 1], [0], [0], [1, 1, 0], [1, 1, 1], [0], [0]])


if __name__ == "__main__":
    unittest.main()
