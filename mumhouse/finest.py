"""All finest ways of answering an ask aloud so that nothing is told."""

from mumhouse.boards import Board
from mumhouse.expressions import lets_ask
from mumhouse.groupings import Grouping


def finest_groupings(hall, ask):
    """Return the ascending tuple of all finest groupings of the ask, () if the hall is not mum."""
    lets_ask(hall.scene[0], ask)
    board = Board(hall)
    return finest_among(board.mum_groupings(board.blocks(ask), board.full))


def finest_among(mum):
    """Return the tuple of those of all mum groupings, given as a list, than which none of them is finer."""
    # Each coarser grouping is mum, too: so it is enough to divide one group into two.
    mums = {grouping: True for grouping in mum}
    return tuple([some for some in mum if not any([split.groups in mums for split in Grouping(some).splits()])])
