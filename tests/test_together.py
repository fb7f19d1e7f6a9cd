"""What the calls say together: the document's laws, over all parts of many instances."""

import unittest
from random import Random

from samples import CATEGORIES, PARALLEL, TRIANGLE, right_pair, told_words
from support import (
    IDEMPOTENT, ONE_ARROW, SWAP, answered, back, between, count, for_all, forward, implies, join, last_answer, lead,
    meet, negate, nth, part, rows, shows, sieves, start, truth, way, within,
)

PAIRS = [right_pair(Random(300000 + number), category, 4) for number, category in enumerate(CATEGORIES)]


def rows_of(answer):
    """The rows of a part that is answered."""
    return list(zip(answer[1::2], answer[2::2]))


def part_count(before, i):
    return last_answer(before + [count(i)])[0]


class LawsTest(unittest.TestCase):
    def setUp(self):
        self.held = 0

    def hold(self, told):
        """Two questions are answered alike, 0 or 1."""
        self.assertIn(told[0], ([0], [1]))
        self.assertEqual(told[0], told[1])
        self.held += told[0][0]

    def test_implied_is_the_greatest_part_that_with_the_one_is_in_the_other(self):
        for before in PAIRS:
            for i in (0, 1):
                numbers = range(part_count(before, i))
                p, q, r, o = range(4 * i, 4 * i + 4)
                for a in numbers:
                    for b in numbers:
                        for c in numbers:
                            told = answered(before + [
                                nth(p, a), nth(q, b), nth(r, c), meet(p, r, o), within(o, q), implies(p, q, o),
                                within(r, o),
                            ])
                            self.hold([told[-3], told[-1]])
        self.assertGreater(self.held, 100)

    def test_forward_and_back_are_partners(self):
        for before in PAIRS:
            for a in range(part_count(before, 0)):
                for b in range(part_count(before, 1)):
                    told = answered(before + [
                        way(0), nth(0, a), nth(4, b), forward(0, 5), within(5, 4), back(4, 1), within(0, 1),
                    ])
                    self.hold([told[-3], told[-1]])
        self.assertGreater(self.held, 100)

    def test_back_and_forward_for_all_are_partners(self):
        for before in PAIRS:
            for a in range(part_count(before, 0)):
                for b in range(part_count(before, 1)):
                    told = answered(before + [
                        way(0), nth(0, a), nth(4, b), back(4, 1), within(1, 0), for_all(0, 5), within(4, 5),
                    ])
                    self.hold([told[-3], told[-1]])
        self.assertGreater(self.held, 100)

    def test_not_is_to_imply_the_part_without_rows(self):
        for before in PAIRS:
            for a in range(part_count(before, 0)):
                told = answered(before + [nth(0, a), nth(1, 0), implies(0, 1, 2), negate(0, 3)])
                self.assertEqual(told[-2], told[-1])

    def test_not_the_joined_is_the_nots_met(self):
        for before in PAIRS:
            numbers = range(part_count(before, 1))
            for a in numbers:
                for b in numbers:
                    told = answered(before + [
                        nth(4, a), nth(5, b), join(4, 5, 6), negate(6, 6), negate(4, 4), negate(5, 5), meet(4, 5, 7),
                    ])
                    self.assertEqual(told[-4], told[-1])

    def test_between_is_what_a_part_and_not_it_leave(self):
        left_over = 0
        for before in PAIRS:
            for i in (0, 1):
                for a in range(part_count(before, i)):
                    p, o = 4 * i, 4 * i + 3
                    told = answered(before + [nth(p, a), negate(p, o), join(p, o, o), between(p)])
                    every = told_words(before).all_rows(i)
                    self.assertEqual(sorted(rows_of(told[-2]) + rows_of(told[-1])), every)
                    left_over += told[-1][0]
        self.assertGreater(left_over, 10)

    def test_or_not_is_not_always_all(self):
        told = answered(ONE_ARROW + [part(0, (1, 0)), negate(0, 1), join(0, 1, 2), between(0)])
        self.assertEqual(told[-2:], [[2, 1, 0, 1, 1], [2, 0, 0, 0, 1]])

    def test_the_first_part_has_no_rows_and_the_last_one_all(self):
        for before in PAIRS:
            for i in (0, 1):
                every = told_words(before).all_rows(i)
                k = part_count(before, i)
                told = answered(before + [nth(4 * i, 0), nth(4 * i, k - 1), nth(4 * i, k)])
                self.assertEqual(told[-3], [0])
                self.assertEqual(rows_of(told[-2]), every)
                self.assertEqual(told[-1], [-3])

    def test_all_parts_are_different_and_in_order(self):
        for before in PAIRS:
            every = told_words(before).all_rows(0)
            found = [rows_of(last_answer(before + [nth(0, k)])) for k in range(part_count(before, 0))]
            signs = [[row in some for row in every] for some in found]
            self.assertEqual(signs, sorted(signs))
            self.assertEqual(len({tuple(sign) for sign in signs}), len(signs))


class TruthTogetherTest(unittest.TestCase):
    def test_how_far_rows_are_in_a_part_says_which_part_it_is(self):
        for before in PAIRS:
            every = told_words(before).all_rows(0)
            tables = []
            for k in range(part_count(before, 0)):
                told = answered(before + [nth(0, k)] + [truth(0, x, r) for x, r in every])
                tables.append(told[len(before) + 1:])
                # A row is in the part just where its thing's own arrow is among those told.
                inside = [row for row, answer in zip(every, tables[-1]) if row[0] in answer[1:]]
                self.assertEqual(inside, rows_of(told[len(before)]))
            self.assertEqual(len({str(table) for table in tables}), len(tables))

    def test_what_is_told_is_a_closed_set(self):
        for before in PAIRS:
            words = told_words(before)
            every = words.all_rows(1)
            for k in range(part_count(before, 1)):
                told = answered(before + [nth(7, k)] + [truth(7, x, r) for x, r in every])[len(before) + 1:]
                for answer in told:
                    self.assertEqual(answer[1:], sorted(set(answer[1:])))
                    self.assertEqual(answer[0], len(answer) - 1)
                    for f in answer[1:]:
                        for g, (begin, end) in enumerate(words.arrows):
                            if begin == words.arrows[f][1]:
                                self.assertIn(words.compose(f, g), answer[1:])

    def test_between_has_the_rows_of_which_some_arrows_are_told_but_not_their_own(self):
        for before in PAIRS:
            every = told_words(before).all_rows(0)
            for k in range(part_count(before, 0)):
                told = answered(before + [nth(1, k), between(1)] + [truth(1, x, r) for x, r in every])
                partly = [row for row, answer in zip(every, told[len(before) + 2:])
                          if answer[0] > 0 and row[0] not in answer[1:]]
                self.assertEqual(rows_of(told[len(before) + 1]), partly)

    def test_an_instance_of_a_things_arrows_has_as_many_parts_as_there_are_closed_sets(self):
        # Its rows are the arrows from x; along an arrow behind it each leads to what they make.
        for category in CATEGORIES:
            words = told_words(category)
            for x in range(words.things):
                out = [f for f, (begin, end) in enumerate(words.arrows) if begin == x]
                of = [[f for f in out if words.arrows[f][1] == y] for y in range(words.things)]
                calls = category + [rows(0, y, len(of[y])) for y in range(words.things)]
                for g in range(words.things, len(words.arrows)):
                    begin, end = words.arrows[g]
                    for r, f in enumerate(of[begin]):
                        calls.append(lead(0, g, r, of[end].index(words.compose(f, g))))
                told = answered(calls + [count(0), sieves(x)])
                self.assertEqual(told[-2], told[-1])


class PartOTest(unittest.TestCase):
    """What is answered as part o is what shows, within, truth and between say of it behind that."""

    def say_the_same(self, before, call, o):
        words = told_words(before)
        told = answered(before + [call, shows(o)])
        self.assertEqual(told[-2], told[-1])
        answer = told[-1]
        i = o // 4
        other = 4 * i + (o + 1) % 4
        inside = rows_of(answer)
        told = answered(before + [call, part(other, *inside), within(o, other), within(other, o), between(o),
                                  between(other), shows(o)])
        self.assertEqual(told[-6:-3], [answer, [1], [1]])
        self.assertEqual(told[-3], told[-2])
        self.assertEqual(told[-1], answer)
        for x, r in words.all_rows(i):
            told = last_answer(before + [call, truth(o, x, r)])
            into = [f for f, (begin, end) in enumerate(words.arrows)
                    if begin == x and (end, words.along(i, f, r)) in inside]
            self.assertEqual(told, [len(into)] + into)
        for k in range(8):
            if k != o:
                self.assertEqual(last_answer(before + [call, shows(k)]), last_answer(before + [shows(k)]))

    def test_of_two_parts_of_one_instance(self):
        for before in PAIRS:
            for i in (0, 1):
                p, q = 4 * i + 1, 4 * i + 2
                k = part_count(before, i)
                ready = before + [nth(p, k // 2), nth(q, k // 3)]
                for o in range(4 * i, 4 * i + 4):
                    for call in (meet(p, q, o), join(p, q, o), implies(p, q, o), implies(q, p, o), negate(p, o),
                                 negate(q, o)):
                        self.say_the_same(ready, call, o)

    def test_of_one_part(self):
        for before in PAIRS:
            for o in (0, 3, 4, 7):
                k = part_count(before, o // 4)
                self.say_the_same(before + [nth(o, k // 2)], nth(o, k - 1), o)
                row = told_words(before).all_rows(o // 4)[0]
                self.say_the_same(before + [nth(o, k - 1)], part(o, row), o)

    def test_along_the_map(self):
        for before in PAIRS:
            ready = before + [way(0), nth(2, part_count(before, 0) // 2), nth(6, part_count(before, 1) // 2)]
            for o in range(4):
                self.say_the_same(ready, back(6, o), o)
                self.say_the_same(ready, forward(2, 4 + o), 4 + o)
                self.say_the_same(ready, for_all(2, 4 + o), 4 + o)

    def test_forward_for_all_is_forward_where_the_map_is_one_to_one_and_onto(self):
        for category in (IDEMPOTENT, SWAP):
            before = list(category)
            for i in (0, 1):
                before += [rows(i, 0, 3), lead(i, 1, 0, 0), lead(i, 1, 1, 1), lead(i, 1, 2, 2)]
            # The map takes 0, 1, 2 to 1, 2, 0.
            before.append(way(1 * 9 + 2 * 3 + 0))
            for a in range(8):
                told = answered(before + [nth(0, a), forward(0, 4), for_all(0, 5), back(5, 1)])
                self.assertEqual(told[-3], told[-2])
                self.assertEqual(told[-4], told[-1])
        for category in (PARALLEL, TRIANGLE, [start(3)]):
            self.assertEqual(last_answer(category + [way(0), for_all(0, 4)]), [0])


if __name__ == "__main__":
    unittest.main()
