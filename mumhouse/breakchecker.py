"""Whether a value is a break paper; the paper is confirmed without searching for another one."""

from mumhouse.boards import Board
from mumhouse.breaking import sets_behind
from mumhouse.errors import InvalidPaper
from mumhouse.halls import lets_list
from mumhouse.kinds import is_number, is_rising


def lets_break(hall, asks, thing):
    """Return the number of asks of the row of a paper "breaks", None for a paper "safe", or raise InvalidPaper."""
    lets_list(hall, asks)
    if not _has_shape(thing):
        raise InvalidPaper("shape", -1)
    board = Board(hall)
    rows = [board.blocks(ask) for ask in asks]
    if thing[0] == "safe":
        _check_sets(hall, thing[1])
        _check_safe(board, rows, [board.bits_of(worlds) for worlds in thing[1]])
        return None
    for k, j in enumerate(thing[1]):
        if j >= len(asks):
            raise InvalidPaper("index", k)
    if thing[2] not in hall:
        raise InvalidPaper("world", -1)
    _check_breaks(board, rows, thing[1], board.bits_of((thing[2],)))
    return len(thing[1])


def _check_breaks(board, rows, row, world):
    bits = board.full
    for k, j in enumerate(row):
        if not board.keeps(bits):
            raise InvalidPaper("early", k)
        # The world is in just one of these sets.
        bits = [behind for _, behind in sets_behind(board, [rows[j]], bits) if behind & world][0]
    if board.keeps(bits):
        raise InvalidPaper("mum", -1)


def _check_sets(hall, sets):
    for k, worlds in enumerate(sets):
        if not worlds or not all([world in hall for world in worlds]) or not is_rising(worlds):
            raise InvalidPaper("set", k)
        if k > 0 and worlds <= sets[k - 1]:
            raise InvalidPaper("rise", k)
    if hall.worlds not in sets:
        raise InvalidPaper("first", -1)


def _check_safe(board, rows, sets):
    stated = {bits: True for bits in sets}
    for k, bits in enumerate(sets):
        if not board.keeps(bits):
            raise InvalidPaper("tells", k)
        for j, behind in sets_behind(board, rows, bits):
            if behind not in stated:
                raise InvalidPaper("next", (k, j))


def _has_shape(thing):
    if not isinstance(thing, tuple) or len(thing) not in (2, 3):
        return False
    if len(thing) == 3:
        return thing[0] == "breaks" and isinstance(thing[1], tuple) and all([is_number(j) for j in thing[1]])
    return thing[0] == "safe" and isinstance(thing[1], tuple) and all([isinstance(some, tuple) for some in thing[1]])
