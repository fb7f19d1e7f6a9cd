"""The calls that tell the category: each answers a list of numbers, a refusal alone."""

from impliedparts.categories import Category
from impliedparts.refusals import FULL, NO_SUCH_ARROW, UNFIT

MOST_THINGS = 3
MOST_ARROWS = 8


def call_start(line, n):
    if n < 1 or n > MOST_THINGS:
        return [UNFIT]
    line.category = Category(n)
    line.forget_rows()
    return [n]


def call_arrow(line, x, y):
    category = line.category
    if x >= category.things or y >= category.things:
        return [UNFIT]
    if category.arrow_count() >= MOST_ARROWS:
        return [FULL]
    number = category.add_arrow(x, y)
    line.forget_rows()
    return [number]


def call_make(line, f, g, h):
    category = line.category
    if max(f, g, h) >= category.arrow_count():
        return [NO_SUCH_ARROW]
    if category.is_own(f) or category.is_own(g) or not category.do_meet(f, g):
        return [UNFIT]
    category.tell_made(f, g, h)
    line.forget_rows()
    return [h]
