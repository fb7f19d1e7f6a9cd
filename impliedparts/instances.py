"""The calls of a line, read from one list of numbers, and their answers in another one."""

from impliedparts.category_calls import call_arrow, call_make, call_start
from impliedparts.instance_calls import call_check, call_rows, call_set, call_way
from impliedparts.lines import Line
from impliedparts.part_calls import call_implies, call_join, call_meet, call_part

START = 0
ARROW = 1
MAKE = 2
ROWS = 3
SET = 4
CHECK = 5
WAY = 6
PART = 7
MEET = 8
JOIN = 9

# How many whole numbers each call has, by its number, up to implies; the rows of part come behind these.
WHOLE_NUMBERS = (1, 2, 3, 3, 4, 1, 1, 1, 3, 3, 3)


def answers(calls):
    """For each call, in order: how many numbers are answered, then these."""
    line = Line()
    told = []
    at = 0
    while at < len(calls):
        end = end_of_call(calls, at)
        answer = answer_of(line, calls[at], calls[at + 1:end])
        told.append(len(answer))
        told.extend(answer)
        at = end
    return told


def end_of_call(calls, at):
    """Where the call that begins there ends: the place behind its last number."""
    end = at + 1 + WHOLE_NUMBERS[calls[at]]
    if calls[at] == PART:
        end = end + 1 + calls[end]
    return end


def answer_of(line, call, given):
    if call <= MAKE:
        return answer_of_category_call(line, call, given)
    if call <= WAY:
        return answer_of_instance_call(line, call, given)
    return answer_of_part_call(line, call, given)


def answer_of_category_call(line, call, given):
    if call == START:
        return call_start(line, given[0])
    if call == ARROW:
        return call_arrow(line, given[0], given[1])
    return call_make(line, given[0], given[1], given[2])


def answer_of_instance_call(line, call, given):
    if call == ROWS:
        return call_rows(line, given[0], given[1], given[2])
    if call == SET:
        return call_set(line, given[0], given[1], given[2], given[3])
    if call == CHECK:
        return call_check(line, given[0])
    return call_way(line, given[0])


def answer_of_part_call(line, call, given):
    if call == PART:
        # given[1] is how many numbers the rows have.
        return call_part(line, given[0], given[2:])
    if call == MEET:
        return call_meet(line, given[0], given[1], given[2])
    if call == JOIN:
        return call_join(line, given[0], given[1], given[2])
    return call_implies(line, given[0], given[1], given[2])
