"""The calls that ask and change nothing of parts: each answers a list of numbers, a refusal alone."""

from impliedparts.part_calls import refusal_of_parts
from impliedparts.parts import arrows_into, is_within, rows_between, told_part
from impliedparts.refusals import NO_SUCH_PART, NOT_REFUSED, UNFIT


def call_within(line, p, q):
    if not line.share_instance([p, q]):
        return [NO_SUCH_PART]
    if is_within(line.parts[p], line.parts[q]):
        return [1]
    return [0]


def call_truth(line, p, x, r):
    refusal = refusal_of_parts(line, [p])
    if refusal != NOT_REFUSED:
        return [refusal]
    instance = line.instance_of(p)
    if not instance.has_row(x, r):
        return [UNFIT]
    found = arrows_into(instance, (x, r), line.parts[p])
    return [len(found)] + found


def call_between(line, p):
    refusal = refusal_of_parts(line, [p])
    if refusal != NOT_REFUSED:
        return [refusal]
    return told_part(rows_between(line.instance_of(p), line.parts[p]))


def call_shows(line, p):
    if not line.share_instance([p]):
        return [NO_SUCH_PART]
    return told_part(line.parts[p])
