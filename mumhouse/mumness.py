"""Whether a hall is mum, and what it tells if it is not."""

from mumhouse.boards import Board


def is_mum(hall):
    """Return whether the hall tells no secret to any few."""
    board = Board(hall)
    return board.keeps(board.full)


def tellings(hall):
    """Return the ascending tuple of (few, k, world) for each view, world its least, that tells secret k to the few."""
    board = Board(hall)
    return tuple([(few, k, board.least(view)) for few, k, view, false in board.dangers() if not false])


def told_secrets(hall):
    """Return the set of the indexes of the secrets that the hall tells to some few."""
    board = Board(hall)
    return board.told(board.full)
