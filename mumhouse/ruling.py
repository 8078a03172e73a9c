"""Rules by which a house answers aloud: the plain one, which can tell by what it refuses, and the alike one."""

from mumhouse.boards import Board
from mumhouse.expressions import lets_ask
from mumhouse.groupings import Grouping
from mumhouse.halls import lets_grouping
from mumhouse.knowing import values_in


def is_mum_aloud(hall, ask, grouping):
    """Return whether the grouping of the ask is mum aloud."""
    lets_grouping(hall, ask, grouping)
    board = Board(hall)
    return board.keeps_groups(board.blocks(ask), board.full, grouping)


def plain_grouping(hall, ask):
    """Return the grouping with a whole answer for each value that tells nothing, and one group of all others."""
    lets_ask(hall.scene[0], ask)
    board = Board(hall)
    return board.plain_grouping(board.blocks(ask), board.full)


def alike_grouping(hall, ask):
    """Return the grouping of whole answers if none of them tells anything, otherwise one group of all values."""
    values = values_in(hall.scene[0], hall.worlds, ask)
    whole = Grouping.whole(values).groups
    return whole if is_mum_aloud(hall, ask, whole) else (values,)


def plain_leaks(hall, ask):
    """Return whether the plain grouping of the ask is not mum aloud."""
    return not is_mum_aloud(hall, ask, plain_grouping(hall, ask))
