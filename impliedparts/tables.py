"""An instance of a category: its rows, and where they lead along the arrows."""

NOT_TOLD = 99
MOST_ROWS = 6


class Instance:
    """Rows are pairs of a thing and a number; leads[f][r] is where row r leads along arrow f."""

    def __init__(self, category):
        self.category = category
        self.sizes = [0] * category.things
        self.leads = [[] for f in range(category.arrow_count())]

    def tell_size(self, x, k):
        """Of x there are k rows; where rows lead from x and to x is forgotten."""
        category = self.category
        self.sizes[x] = k
        for f in category.told_arrows():
            if category.begins[f] == x or category.ends[f] == x:
                self.leads[f] = [NOT_TOLD] * self.sizes[category.begins[f]]
        self.leads[x] = list(range(k))

    def has_row(self, x, r):
        return x < len(self.sizes) and r < self.sizes[x]

    def all_rows(self):
        """The rows, in order."""
        rows = []
        for x, size in enumerate(self.sizes):
            for r in range(size):
                rows.append((x, r))
        return rows

    def led_along(self, f, row):
        return (self.category.ends[f], self.leads[f][row[1]])

    def led_to(self, row):
        """The rows to which this one leads, along each arrow from its thing; itself among them."""
        return [self.led_along(f, row) for f in self.category.arrows_from(row[0])]

    def first_gap(self):
        """The first place where it isn't told where a row leads, or where there's no such row."""
        for f in self.category.told_arrows():
            size = self.sizes[self.category.ends[f]]
            for r, v in enumerate(self.leads[f]):
                if v == NOT_TOLD:
                    return [1, f, r]
                if v >= size:
                    return [2, f, r]
        return []

    def first_detour(self):
        """The first place where two arrows lead elsewhere than what they make."""
        for f, g in self.category.meeting_pairs():
            made = self.leads[self.category.what_make(f, g)]
            for r, v in enumerate(self.leads[f]):
                if self.leads[g][v] != made[r]:
                    return [3, f, g, r]
        return []

    def first_fault(self):
        """The first fault, of a category; nothing if there's none."""
        # Only where all lead to rows that there are can two arrows be followed.
        fault = self.first_gap()
        if fault == []:
            fault = self.first_detour()
        return fault

    def is_right(self):
        return self.category.is_category() and self.first_fault() == []
