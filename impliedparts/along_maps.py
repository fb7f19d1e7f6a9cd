"""Parts along a map: its moves are the pairs of a row and the row to which the map takes it, in order."""


def moves_of_map(source, numbers):
    """The moves of the map that is told by these numbers, one for each row of source."""
    moves = []
    for k, row in enumerate(source.all_rows()):
        moves.append((row, (row[0], numbers[k])))
    return moves


def forward_part(target, moves, p):
    """The rows of target to which some row of p is taken."""
    reached = [move[1] for move in moves if move[0] in p]
    return [row for row in target.all_rows() if row in reached]


def back_part(moves, p):
    """The rows that are taken into p."""
    return [move[0] for move in moves if move[1] in p]


def for_all_part(target, moves, p):
    """The rows of target that lead only to such rows to which nothing outside p is taken."""
    missed = [move[1] for move in moves if move[0] not in p]
    return [row for row in target.all_rows() if leads_to_none(target, row, missed)]


def leads_to_none(target, row, missed):
    for led in target.led_to(row):
        if led in missed:
            return False
    return True
