"""Why something cannot be answered, and which secrets stand in the way."""

from mumhouse.boards import Board
from mumhouse.finestpapers import told_side
from mumhouse.groupings import not_alone
from mumhouse.halls import lets_grouping, lets_list


def needed_drops(hall, *asks):
    """Return the set of the indexes of the secrets that whole answers to all asks can tell."""
    lets_list(hall, asks)
    board = Board(hall)
    return tuple(sorted(set([k for part in board.parts_by(asks) for k in board.told(part)])))


def why_paper(hall, ask, grouping):
    """Return a row (value, side, few, k, world) for each value that does not stand alone; None if one has none."""
    lets_grouping(hall, ask, grouping)
    rows = []
    for value, others in not_alone(grouping):
        found = told_side(hall, ask, ((value,), others))
        if found is None:
            return None
        side, paper = found
        rows.append((value, side, *paper[1:]))
    return tuple(rows)
