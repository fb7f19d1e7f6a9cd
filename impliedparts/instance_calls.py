"""The calls about instances and maps: each answers a list of numbers, a refusal alone."""

from impliedparts.maps import maps_between
from impliedparts.refusals import FULL, NO_SUCH_ARROW, NO_SUCH_INSTANCE, NO_SUCH_MAP, NOT_RIGHT, UNFIT
from impliedparts.tables import MOST_ROWS, NOT_TOLD


def call_rows(line, i, x, k):
    if not line.has_instance(i):
        return [NO_SUCH_INSTANCE]
    if x >= line.category.things:
        return [UNFIT]
    instance = line.instances[i]
    rows_then = sum(instance.sizes) - instance.sizes[x] + k
    if rows_then > MOST_ROWS:
        return [FULL]
    instance.tell_size(x, k)
    line.forget_parts(i)
    return [rows_then]


def call_set(line, i, f, r, v):
    if not line.has_instance(i):
        return [NO_SUCH_INSTANCE]
    category = line.category
    if f >= category.arrow_count():
        return [NO_SUCH_ARROW]
    instance = line.instances[i]
    if category.is_own(f) or not instance.has_row(category.begins[f], r) or v > NOT_TOLD:
        return [UNFIT]
    led = instance.leads[f][r]
    instance.leads[f][r] = v
    line.forget_parts(i)
    return [led]


def call_check(line, i):
    if not line.has_instance(i):
        return [NO_SUCH_INSTANCE]
    if not line.category.is_category():
        return [NOT_RIGHT]
    fault = line.instances[i].first_fault()
    if fault == []:
        return [0]
    return fault


def call_way(line, k):
    for instance in line.instances:
        if not instance.is_right():
            return [NOT_RIGHT]
    found = maps_between(line.instances[0], line.instances[1])
    if k >= len(found):
        return [NO_SUCH_MAP]
    line.chosen = found[k]
    return [len(found)] + found[k]
