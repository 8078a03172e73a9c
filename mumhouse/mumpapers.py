"""Papers that state whether a hall is mum."""

from mumhouse.boards import Board


def mum_paper(hall):
    """Return a paper ("mum", rows) or ("tells", few, k, world) of the hall."""
    board = Board(hall)
    rows = []
    for few, k, view, false in board.dangers():
        if not false:
            return "tells", few, k, board.least(view)
        rows.append((few, k, board.least(view), board.least(false)))
    return "mum", tuple(rows)
