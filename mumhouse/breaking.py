"""How the plain rule can be broken by asks that are asked one after the other."""

from mumhouse.boards import Board, worlds_behind
from mumhouse.halls import lets_list


def breaks_plain(hall, asks):
    """Return the shortest row that breaks the plain rule, with the least world in which it does, or None."""
    lets_list(hall, asks)
    return look_for_break(Board(hall), asks)[0]


def look_for_break(board, asks):
    """Return what breaks_plain returns, and the list of the sets of worlds that have been reached and are mum."""
    if not board.keeps(board.full):
        return ((), board.least(board.full)), []
    rows = [board.blocks(ask) for ask in asks]
    seen = {board.full: True}
    # A set of worlds stands with the least of the shortest rows that lead to it. Other rows that lead there need not
    # be looked at: what breaks the plain rule behind them does so behind this one.
    layer = [((), board.full)]
    while layer:
        found = []
        coming = []
        for row, bits in layer:
            for j, behind in sets_behind(board, rows, bits):
                if not board.keeps(behind):
                    found.append(((*row, j), board.least(behind)))
                elif behind not in seen:
                    seen[behind] = True
                    coming.append(((*row, j), behind))
        if found:
            return min(found), list(seen)
        layer = sorted(coming)
    return None, list(seen)


def sets_behind(board, rows, bits):
    """Return a list of (j, worlds) for each group of the plain grouping of each ask j in the hall with these worlds.

    rows has the blocks of each ask.
    """
    found = []
    for j, blocks in enumerate(rows):
        for group in board.plain_grouping(blocks, bits):
            found.append((j, worlds_behind(blocks, bits, group)))
    return found
