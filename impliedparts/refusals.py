"""The numbers that stand for refusals, and the one that stands for none."""

NOT_REFUSED = 0
UNFIT = -1
NO_SUCH_INSTANCE = -2
NO_SUCH_PART = -2
NO_SUCH_ARROW = -3
NO_SUCH_MAP = -3
NO_SUCH_NUMBER = -3
FULL = -5
NOT_RIGHT = -6
NO_MAP_CHOSEN = -6
