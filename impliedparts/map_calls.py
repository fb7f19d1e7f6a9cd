"""The calls that take parts along the map chosen: each answers a list of numbers, a refusal alone."""

from impliedparts.along_maps import back_part, for_all_part, forward_part, moves_of_map
from impliedparts.part_calls import put_part
from impliedparts.refusals import NO_MAP_CHOSEN, NO_SUCH_PART, NOT_REFUSED


def refusal_along(line, p, i, o, j):
    """Why p of instance i can't be taken to o of instance j, as a refusal; NOT_REFUSED if it can."""
    if not line.is_part_of(p, i) or not line.is_part_of(o, j):
        return NO_SUCH_PART
    # The instances needn't be looked at: whatever could make them wrong leaves no map chosen.
    if line.chosen is None:
        return NO_MAP_CHOSEN
    return NOT_REFUSED


def chosen_moves(line):
    return moves_of_map(line.instances[0], line.chosen)


def call_forward(line, p, o):
    refusal = refusal_along(line, p, 0, o, 1)
    if refusal != NOT_REFUSED:
        return [refusal]
    return put_part(line, o, forward_part(line.instances[1], chosen_moves(line), line.parts[p]))


def call_back(line, p, o):
    refusal = refusal_along(line, p, 1, o, 0)
    if refusal != NOT_REFUSED:
        return [refusal]
    return put_part(line, o, back_part(chosen_moves(line), line.parts[p]))


def call_for_all(line, p, o):
    refusal = refusal_along(line, p, 0, o, 1)
    if refusal != NOT_REFUSED:
        return [refusal]
    return put_part(line, o, for_all_part(line.instances[1], chosen_moves(line), line.parts[p]))
