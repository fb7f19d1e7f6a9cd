"""What a line's calls are about: a category, two instances, a map that may be chosen, parts."""

from impliedparts.categories import Category
from impliedparts.tables import Instance

INSTANCES = 2
PARTS = 8
PARTS_OF_EACH = 4


class Line:
    """At its beginning there's one thing, no row, no map chosen."""

    def __init__(self):
        self.category = Category(1)
        self.forget_rows()

    def forget_rows(self):
        """No instance has a row any more, so no part has one, and no map is chosen."""
        self.instances = [Instance(self.category) for i in range(INSTANCES)]
        self.parts = [[] for p in range(PARTS)]
        self.chosen = None

    def forget_parts(self, i):
        """The parts of instance i have no rows any more, and no map is chosen."""
        for p in range(i * PARTS_OF_EACH, (i + 1) * PARTS_OF_EACH):
            self.parts[p] = []
        self.chosen = None

    def has_instance(self, i):
        return i < INSTANCES

    def is_part_of(self, p, i):
        return p // PARTS_OF_EACH == i

    def share_instance(self, numbers):
        """Whether there are all these parts, and all are of one instance."""
        for p in numbers:
            if p >= PARTS or p // PARTS_OF_EACH != numbers[0] // PARTS_OF_EACH:
                return False
        return True

    def instance_of(self, p):
        return self.instances[p // PARTS_OF_EACH]
