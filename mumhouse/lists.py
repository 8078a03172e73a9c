"""How many whole answers can be given to a list of asks that are asked aloud, one after the other."""

from mumhouse.boards import Board, worlds_behind
from mumhouse.halls import lets_grouping, lets_list


def best_list(hall, asks):
    """Return the greatest number of whole answers, or None if the hall is not mum."""
    lets_list(hall, asks)
    board = Board(hall)
    if not board.keeps(board.full):
        return None
    return _best(board, [board.blocks(ask) for ask in asks], board.full, {})[0]


def best_tree(hall, asks):
    """Return a tree with the greatest number of whole answers, or None if the hall is not mum."""
    lets_list(hall, asks)
    board = Board(hall)
    if not board.keeps(board.full):
        return None
    return _tree(board, [board.blocks(ask) for ask in asks], board.full, {})


def price(hall, asks, grouping):
    """Return how many whole answers are lost if the first ask is answered by this grouping; None if it is not mum."""
    lets_list(hall, asks)
    lets_grouping(hall, asks[0], grouping)
    board = Board(hall)
    rows = [board.blocks(ask) for ask in asks]
    if not board.keeps_groups(rows[0], board.full, grouping):
        return None
    found = {}
    return _best(board, rows, board.full, found)[0] - _number(board, rows, board.full, grouping, found)


def _best(board, rows, bits, found):
    """Return the greatest number, and a grouping of the first ask that reaches it, in the hall with these worlds.

    rows has the blocks of each ask; found keeps what was found before.
    """
    if not rows:
        return 0, ()
    key = (len(rows), bits)
    if key not in found:
        best = (-1, ())
        for grouping in board.mum_groupings(rows[0], bits):
            number = _number(board, rows, bits, grouping, found)
            if number > best[0]:
                best = (number, grouping)
        found[key] = best
    return found[key]


def _number(board, rows, bits, grouping, found):
    """Return the greatest number if the first ask is answered by this grouping."""
    total = 0
    for group in grouping:
        behind = worlds_behind(rows[0], bits, group)
        whole = board.many(behind) if len(group) == 1 else 0
        total += whole + _best(board, rows[1:], behind, found)[0]
    return total


def _tree(board, rows, bits, found):
    if not rows:
        return ()
    grouping = _best(board, rows, bits, found)[1]
    return grouping, tuple([_tree(board, rows[1:], worlds_behind(rows[0], bits, group), found) for group in grouping])
