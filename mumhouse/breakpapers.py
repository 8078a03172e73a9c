"""Papers that state whether the plain rule can be broken."""

from mumhouse.boards import Board
from mumhouse.breaking import look_for_break
from mumhouse.halls import lets_list


def break_paper(hall, asks):
    """Return a paper ("breaks", row, world) or ("safe", sets) of the hall and the asks."""
    lets_list(hall, asks)
    board = Board(hall)
    found, reached = look_for_break(board, asks)
    if found is None:
        return "safe", tuple(sorted([board.worlds_in(bits) for bits in reached]))
    row, world = found
    return "breaks", row, world
