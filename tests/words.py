"""The document's words gone through one by one, by trying all there is: slow, and apart from the program."""

from functools import cmp_to_key
from itertools import product


class Words:
    """A line as the document tells it; answer(call) takes one call as a list of numbers."""

    def __init__(self):
        self.told_things(1)

    def told_things(self, n):
        self.things = n
        self.arrows = [(x, x) for x in range(n)]
        self.made = {}
        self.clear()

    def clear(self):
        self.rows = [[0] * self.things, [0] * self.things]
        self.leads = [{}, {}]
        self.parts = [frozenset()] * 8
        self.chosen = None

    def touch(self, i):
        for p in range(8):
            if p // 4 == i:
                self.parts[p] = frozenset()
        self.chosen = None

    def compose(self, f, g):
        if f < self.things:
            return g
        if g < self.things:
            return f
        return self.made.get((f, g))

    def category(self):
        every = range(len(self.arrows))
        pairs = [(f, g) for f in every for g in every if self.arrows[f][1] == self.arrows[g][0]]
        for f, g in pairs:
            h = self.compose(f, g)
            if h is None or self.arrows[h] != (self.arrows[f][0], self.arrows[g][1]):
                return False
        return all(
            self.compose(self.compose(f, g), h) == self.compose(f, self.compose(g, h))
            for f, g in pairs for h in every if self.arrows[g][1] == self.arrows[h][0]
        )

    def along(self, i, f, r):
        return r if f < self.things else self.leads[i].get((f, r))

    def fault(self, i):
        told = range(self.things, len(self.arrows))
        for f in told:
            x, y = self.arrows[f]
            for r in range(self.rows[i][x]):
                if self.along(i, f, r) is None:
                    return [1, f, r]
                if self.along(i, f, r) >= self.rows[i][y]:
                    return [2, f, r]
        for f, g in product(told, told):
            if self.arrows[f][1] == self.arrows[g][0]:
                for r in range(self.rows[i][self.arrows[f][0]]):
                    if self.along(i, g, self.along(i, f, r)) != self.along(i, self.compose(f, g), r):
                        return [3, f, g, r]
        return [0]

    def right(self, i):
        return self.category() and self.fault(i) == [0]

    def all_rows(self, i):
        return [(x, r) for x in range(self.things) for r in range(self.rows[i][x])]

    def steps(self, i, row):
        return [(y, self.along(i, f, row[1])) for f, (x, y) in enumerate(self.arrows) if x == row[0]]

    def all_parts(self, i):
        every = self.all_rows(i)
        found = []
        for bits in product((False, True), repeat=len(every)):
            some = frozenset(row for row, bit in zip(every, bits) if bit)
            if all(step in some for row in some for step in self.steps(i, row)):
                found.append(some)
        return found

    def comes_first(self, i, one, other):
        """Below 0 if the one part comes before the other, as the document orders them."""
        for row in self.all_rows(i):
            if (row in one) != (row in other):
                return 1 if row in one else -1
        return 0

    def ordered_parts(self, i):
        return sorted(self.all_parts(i), key=cmp_to_key(lambda one, other: self.comes_first(i, one, other)))

    def taken(self):
        """Where the map chosen takes the rows of instance 0."""
        return {row: (row[0], number) for row, number in zip(self.all_rows(0), self.chosen)}

    def all_maps(self):
        every = self.all_rows(0)
        found = []
        for numbers in product(*[range(self.rows[1][x]) for x, r in every]):
            taken = {row: (row[0], number) for row, number in zip(every, numbers)}
            if all(
                taken[(y, self.along(0, f, row[1]))] == (y, self.along(1, f, taken[row][1]))
                for row in every for f, (x, y) in enumerate(self.arrows) if x == row[0]
            ):
                found.append(list(numbers))
        return sorted(found)

    def told(self, some):
        return [len(some)] + [number for row in sorted(some) for number in row]

    def put(self, o, some):
        self.parts[o] = frozenset(some)
        return self.told(some)

    def answer(self, call):
        names = ("start", "arrow", "make", "rows", "set", "check", "way", "part", "meet", "join", "implies",
                 "not", "forward", "back", "for_all", "within", "count", "nth", "truth", "sieves", "between", "shows")
        return getattr(self, "call_" + names[call[0]])(*call[1:])

    def call_start(self, n):
        if n not in (1, 2, 3):
            return [-1]
        self.told_things(n)
        return [n]

    def call_arrow(self, x, y):
        if x >= self.things or y >= self.things:
            return [-1]
        if len(self.arrows) == 8:
            return [-5]
        self.arrows.append((x, y))
        self.clear()
        return [len(self.arrows) - 1]

    def call_make(self, f, g, h):
        if f >= len(self.arrows) or g >= len(self.arrows) or h >= len(self.arrows):
            return [-3]
        if f < self.things or g < self.things or self.arrows[f][1] != self.arrows[g][0]:
            return [-1]
        self.made[f, g] = h
        self.clear()
        return [h]

    def call_rows(self, i, x, k):
        if i > 1:
            return [-2]
        if x >= self.things:
            return [-1]
        then = list(self.rows[i])
        then[x] = k
        if sum(then) > 6:
            return [-5]
        self.rows[i] = then
        self.leads[i] = {(f, r): v for (f, r), v in self.leads[i].items() if x not in self.arrows[f]}
        self.touch(i)
        return [sum(then)]

    def call_set(self, i, f, r, v):
        if i > 1:
            return [-2]
        if f >= len(self.arrows):
            return [-3]
        if f < self.things or r >= self.rows[i][self.arrows[f][0]] or v > 99:
            return [-1]
        led = self.leads[i].pop((f, r), 99)
        if v != 99:
            self.leads[i][f, r] = v
        self.touch(i)
        return [led]

    def call_check(self, i):
        if i > 1:
            return [-2]
        return self.fault(i) if self.category() else [-6]

    def call_way(self, k):
        if not (self.right(0) and self.right(1)):
            return [-6]
        found = self.all_maps()
        if k >= len(found):
            return [-3]
        self.chosen = found[k]
        return [len(found)] + found[k]

    def refusal(self, *parts):
        if max(parts) > 7 or len({p // 4 for p in parts}) > 1:
            return -2
        return 0 if self.right(parts[0] // 4) else -6

    def call_part(self, p, count, *numbers):
        if self.refusal(p):
            return [self.refusal(p)]
        given = set(zip(numbers[::2], numbers[1::2]))
        if not given <= set(self.all_rows(p // 4)):
            return [-1]
        having = [some for some in self.all_parts(p // 4) if given <= some]
        return self.put(p, frozenset.intersection(*having))

    def call_meet(self, p, q, o):
        return [self.refusal(p, q, o)] if self.refusal(p, q, o) else self.put(o, self.parts[p] & self.parts[q])

    def call_join(self, p, q, o):
        return [self.refusal(p, q, o)] if self.refusal(p, q, o) else self.put(o, self.parts[p] | self.parts[q])

    def call_implies(self, p, q, o):
        if self.refusal(p, q, o):
            return [self.refusal(p, q, o)]
        fitting = [some for some in self.all_parts(p // 4) if some & self.parts[p] <= self.parts[q]]
        greatest = frozenset().union(*fitting)
        if greatest not in fitting:
            raise AssertionError("there is no greatest one")
        return self.put(o, greatest)

    def greatest_without(self, p):
        apart = [some for some in self.all_parts(p // 4) if not some & self.parts[p]]
        return max(apart, key=len)

    def call_not(self, p, o):
        return [self.refusal(p, o)] if self.refusal(p, o) else self.put(o, self.greatest_without(p))

    def refusal_along(self, p, o, of_p):
        if p > 7 or o > 7 or p // 4 != of_p or o // 4 == of_p:
            return -2
        return -6 if self.chosen is None else 0

    def call_forward(self, p, o):
        if self.refusal_along(p, o, 0):
            return [self.refusal_along(p, o, 0)]
        return self.put(o, {self.taken()[row] for row in self.parts[p]})

    def call_back(self, p, o):
        if self.refusal_along(p, o, 1):
            return [self.refusal_along(p, o, 1)]
        return self.put(o, {row for row, goal in self.taken().items() if goal in self.parts[p]})

    def call_for_all(self, p, o):
        if self.refusal_along(p, o, 0):
            return [self.refusal_along(p, o, 0)]
        return self.put(o, {
            v for v in self.all_rows(1)
            if all(row in self.parts[p] for w in self.steps(1, v) for row, goal in self.taken().items() if goal == w)
        })

    def call_within(self, p, q):
        if max(p, q) > 7 or p // 4 != q // 4:
            return [-2]
        return [1 if self.parts[p] <= self.parts[q] else 0]

    def call_count(self, i):
        if i > 1:
            return [-2]
        return [len(self.all_parts(i))] if self.right(i) else [-6]

    def call_nth(self, p, k):
        if self.refusal(p):
            return [self.refusal(p)]
        found = self.ordered_parts(p // 4)
        return self.put(p, found[k]) if k < len(found) else [-3]

    def call_truth(self, p, x, r):
        if self.refusal(p):
            return [self.refusal(p)]
        if (x, r) not in self.all_rows(p // 4):
            return [-1]
        into = [f for f, (begin, end) in enumerate(self.arrows)
                if begin == x and (end, self.along(p // 4, f, r)) in self.parts[p]]
        return [len(into)] + sorted(into)

    def call_sieves(self, x):
        if not self.category():
            return [-6]
        if x >= self.things:
            return [-1]
        out = [f for f, (begin, end) in enumerate(self.arrows) if begin == x]
        closed = 0
        for bits in product((False, True), repeat=len(out)):
            some = {f for f, bit in zip(out, bits) if bit}
            made = {self.compose(f, g) for f in some for g, (begin, end) in enumerate(self.arrows)
                    if begin == self.arrows[f][1]}
            closed += made <= some
        return [closed]

    def call_between(self, p):
        if self.refusal(p):
            return [self.refusal(p)]
        return self.told(set(self.all_rows(p // 4)) - self.parts[p] - self.greatest_without(p))

    def call_shows(self, p):
        return self.told(self.parts[p]) if p <= 7 else [-2]
