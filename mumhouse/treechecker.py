"""Whether a value is a tree of groupings for a list of asks, and how many whole answers it gives."""

from mumhouse.boards import Board, parts_of_groups, values_there
from mumhouse.errors import InvalidPaper
from mumhouse.groupings import is_grouping_of
from mumhouse.halls import lets_list
from mumhouse.kinds import is_pair, same


def lets_tree(hall, asks, thing):
    """Return the number of whole answers of a tree for the hall and the asks, or raise InvalidPaper."""
    lets_list(hall, asks)
    board = mum_board(hall)
    return _lets_within(board, [board.blocks(ask) for ask in asks], board.full, thing, ())


def mum_board(hall):
    """Return the Board of a hall, or raise InvalidPaper if the hall is not mum."""
    board = Board(hall)
    if not board.keeps(board.full):
        raise InvalidPaper("hall", -1)
    return board


def is_answer(thing):
    """Return whether any value is a pair of any value and a tuple."""
    return is_pair(thing) and isinstance(thing[1], tuple)


def lets_answer(board, blocks, bits, answer, path):
    """Return the list of the worlds behind each group of an answer (grouping, trees), or raise InvalidPaper.

    The grouping is due for an ask with these blocks, in the hall with these worlds.
    """
    grouping, trees = answer
    if not is_grouping_of(grouping, values_there(blocks, bits)):
        raise InvalidPaper("grouping", path)
    if len(trees) != len(grouping):
        raise InvalidPaper("many", path)
    parts = parts_of_groups(blocks, bits, grouping)
    for n, part in enumerate(parts):
        if not board.keeps(part):
            raise InvalidPaper("tells", (*path, n))
    return parts


def _lets_within(board, rows, bits, thing, path):
    """Return the number of whole answers of what should be a tree for the asks with these blocks, in these worlds."""
    shaped = is_answer(thing) if rows else same(thing, ())
    if not shaped:
        raise InvalidPaper("shape", path)
    if not rows:
        return 0
    total = 0
    for n, part in enumerate(lets_answer(board, rows[0], bits, thing, path)):
        if len(thing[0][n]) == 1:
            total += board.many(part)
        total += _lets_within(board, rows[1:], part, thing[1][n], (*path, n))
    return total
