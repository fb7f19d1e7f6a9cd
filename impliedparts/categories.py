"""A category: its things, its arrows, and what two arrows that meet make."""


class Category:
    """Things and arrows are numbered from 0; the first arrows are the things' own."""

    def __init__(self, things):
        self.things = things
        self.begins = list(range(things))
        self.ends = list(range(things))
        self.made = {}

    def arrow_count(self):
        return len(self.begins)

    def add_arrow(self, x, y):
        self.begins.append(x)
        self.ends.append(y)
        return len(self.begins) - 1

    def is_own(self, f):
        return f < self.things

    def told_arrows(self):
        """The arrows that aren't things' own."""
        return list(range(self.things, len(self.begins)))

    def arrows_from(self, x):
        return [f for f in range(len(self.begins)) if self.begins[f] == x]

    def do_meet(self, f, g):
        return self.ends[f] == self.begins[g]

    def tell_made(self, f, g, h):
        self.made[(f, g)] = h

    def what_make(self, f, g):
        """What f and, behind it, g make; None if it isn't told."""
        if self.is_own(f):
            return g
        if self.is_own(g):
            return f
        return self.made.get((f, g))

    def meeting_pairs(self):
        """The arrows that meet and aren't things' own: by the first, then by the second."""
        pairs = []
        for f in self.told_arrows():
            for g in self.told_arrows():
                if self.do_meet(f, g):
                    pairs.append((f, g))
        return pairs

    def makes_fit(self, f, g):
        h = self.what_make(f, g)
        if h is None:
            return False
        return self.begins[h] == self.begins[f] and self.ends[h] == self.ends[g]

    def is_same_taken(self, f, g, h):
        """Whether f, g, h make the same, the first two or the last two taken together first."""
        return self.what_make(self.what_make(f, g), h) == self.what_make(f, self.what_make(g, h))

    def is_category(self):
        # A thing's own arrow changes nothing, so that no pair or triple with one can be amiss.
        pairs = self.meeting_pairs()
        for f, g in pairs:
            if not self.makes_fit(f, g):
                return False
        for f, g in pairs:
            for h in self.told_arrows():
                if self.do_meet(g, h) and not self.is_same_taken(f, g, h):
                    return False
        return True
