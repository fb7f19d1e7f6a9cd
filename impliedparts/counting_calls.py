"""The calls about all parts and all closed sets: each answers a list of numbers, a refusal alone."""

from impliedparts.part_calls import put_part, refusal_of_parts
from impliedparts.parts import all_parts
from impliedparts.refusals import NO_SUCH_INSTANCE, NO_SUCH_NUMBER, NOT_REFUSED, NOT_RIGHT, UNFIT
from impliedparts.sieves import closed_sets


def call_count(line, i):
    if not line.has_instance(i):
        return [NO_SUCH_INSTANCE]
    instance = line.instances[i]
    if not instance.is_right():
        return [NOT_RIGHT]
    return [len(all_parts(instance))]


def call_nth(line, p, k):
    refusal = refusal_of_parts(line, [p])
    if refusal != NOT_REFUSED:
        return [refusal]
    found = all_parts(line.instance_of(p))
    if k >= len(found):
        return [NO_SUCH_NUMBER]
    return put_part(line, p, found[k])


def call_sieves(line, x):
    if not line.category.is_category():
        return [NOT_RIGHT]
    if x >= line.category.things:
        return [UNFIT]
    return [len(closed_sets(line.category, x))]
