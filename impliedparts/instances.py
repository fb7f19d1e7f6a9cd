"""The calls of a line, read from one list of numbers, and their answers in another one."""

from impliedparts.category_calls import call_arrow, call_make, call_start
from impliedparts.counting_calls import call_count, call_nth, call_sieves
from impliedparts.instance_calls import call_check, call_rows, call_set, call_way
from impliedparts.lines import Line
from impliedparts.map_calls import call_back, call_for_all, call_forward
from impliedparts.part_calls import call_implies, call_join, call_meet, call_not, call_part
from impliedparts.truth_calls import call_between, call_shows, call_truth, call_within

START = 0
ARROW = 1
MAKE = 2
ROWS = 3
SET = 4
CHECK = 5
WAY = 6
PART = 7
MEET = 8
JOIN = 9
IMPLIES = 10
NOT = 11
FORWARD = 12
BACK = 13
FOR_ALL = 14
WITHIN = 15
COUNT = 16
NTH = 17
TRUTH = 18
SIEVES = 19
BETWEEN = 20

# How many whole numbers each call has, by its number; the rows of part come behind these.
WHOLE_NUMBERS = (1, 2, 3, 3, 4, 1, 1, 1, 3, 3, 3, 2, 2, 2, 2, 2, 1, 2, 3, 1, 1, 1)


def answers(calls):
    """For each call, in order: how many numbers are answered, then these."""
    line = Line()
    told = []
    at = 0
    while at < len(calls):
        end = end_of_call(calls, at)
        answer = answer_of(line, calls[at], calls[at + 1:end])
        told.append(len(answer))
        told.extend(answer)
        at = end
    return told


def end_of_call(calls, at):
    """Where the call that begins there ends: the place behind its last number."""
    end = at + 1 + WHOLE_NUMBERS[calls[at]]
    if calls[at] == PART:
        end = end + 1 + calls[end]
    return end


def answer_of(line, call, given):
    if call <= MAKE:
        return answer_of_category_call(line, call, given)
    if call <= WAY:
        return answer_of_instance_call(line, call, given)
    if call <= NOT:
        return answer_of_part_call(line, call, given)
    if call <= FOR_ALL:
        return answer_of_map_call(line, call, given)
    if call == COUNT or call == NTH or call == SIEVES:
        return answer_of_counting_call(line, call, given)
    return answer_of_truth_call(line, call, given)


def answer_of_category_call(line, call, given):
    if call == START:
        return call_start(line, given[0])
    if call == ARROW:
        return call_arrow(line, given[0], given[1])
    return call_make(line, given[0], given[1], given[2])


def answer_of_instance_call(line, call, given):
    if call == ROWS:
        return call_rows(line, given[0], given[1], given[2])
    if call == SET:
        return call_set(line, given[0], given[1], given[2], given[3])
    if call == CHECK:
        return call_check(line, given[0])
    return call_way(line, given[0])


def answer_of_part_call(line, call, given):
    if call == PART:
        # given[1] is how many numbers the rows have.
        return call_part(line, given[0], given[2:])
    if call == MEET:
        return call_meet(line, given[0], given[1], given[2])
    if call == JOIN:
        return call_join(line, given[0], given[1], given[2])
    if call == IMPLIES:
        return call_implies(line, given[0], given[1], given[2])
    return call_not(line, given[0], given[1])


def answer_of_map_call(line, call, given):
    if call == FORWARD:
        return call_forward(line, given[0], given[1])
    if call == BACK:
        return call_back(line, given[0], given[1])
    return call_for_all(line, given[0], given[1])


def answer_of_counting_call(line, call, given):
    if call == COUNT:
        return call_count(line, given[0])
    if call == NTH:
        return call_nth(line, given[0], given[1])
    return call_sieves(line, given[0])


def answer_of_truth_call(line, call, given):
    if call == WITHIN:
        return call_within(line, given[0], given[1])
    if call == TRUTH:
        return call_truth(line, given[0], given[1], given[2])
    if call == BETWEEN:
        return call_between(line, given[0])
    return call_shows(line, given[0])
