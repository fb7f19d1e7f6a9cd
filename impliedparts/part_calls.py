"""The calls about parts: each answers a list of numbers, a refusal alone."""

from impliedparts.parts import brought_part, implied_part, joined_part, met_part, not_part, told_part
from impliedparts.refusals import NO_SUCH_PART, NOT_REFUSED, NOT_RIGHT, UNFIT


def refusal_of_parts(line, numbers):
    """Why these parts can't be worked with, as a refusal; NOT_REFUSED if they can."""
    if not line.share_instance(numbers):
        return NO_SUCH_PART
    if not line.instance_of(numbers[0]).is_right():
        return NOT_RIGHT
    return NOT_REFUSED


def put_part(line, o, part):
    line.parts[o] = part
    return told_part(part)


def call_part(line, p, numbers):
    refusal = refusal_of_parts(line, [p])
    if refusal != NOT_REFUSED:
        return [refusal]
    instance = line.instance_of(p)
    rows = [(numbers[k], numbers[k + 1]) for k in range(0, len(numbers), 2)]
    for row in rows:
        if not instance.has_row(row[0], row[1]):
            return [UNFIT]
    return put_part(line, p, brought_part(instance, rows))


def call_meet(line, p, q, o):
    refusal = refusal_of_parts(line, [p, q, o])
    if refusal != NOT_REFUSED:
        return [refusal]
    return put_part(line, o, met_part(line.parts[p], line.parts[q]))


def call_join(line, p, q, o):
    refusal = refusal_of_parts(line, [p, q, o])
    if refusal != NOT_REFUSED:
        return [refusal]
    return put_part(line, o, joined_part(line.instance_of(o), line.parts[p], line.parts[q]))


def call_implies(line, p, q, o):
    refusal = refusal_of_parts(line, [p, q, o])
    if refusal != NOT_REFUSED:
        return [refusal]
    return put_part(line, o, implied_part(line.instance_of(o), line.parts[p], line.parts[q]))


def call_not(line, p, o):
    refusal = refusal_of_parts(line, [p, o])
    if refusal != NOT_REFUSED:
        return [refusal]
    return put_part(line, o, not_part(line.instance_of(o), line.parts[p]))
