"""Whether a value is a sure tree or a limit tree, and its number."""

from mumhouse.boards import worlds_behind
from mumhouse.errors import InvalidPaper
from mumhouse.halls import lets_list
from mumhouse.kinds import is_number, is_pair, same
from mumhouse.sureness import whole_answer
from mumhouse.treechecker import is_answer, lets_answer, mum_board


def lets_sure(hall, asks, thing):
    """Return the number of a sure tree for the hall and the asks, or raise InvalidPaper."""
    lets_list(hall, asks)
    board = mum_board(hall)
    return _lets_sure(board, [board.blocks(ask) for ask in asks], board.full, thing, ())


def lets_limit(hall, asks, thing):
    """Return the number of a limit tree for the hall and the asks, or raise InvalidPaper."""
    lets_list(hall, asks)
    board = mum_board(hall)
    return _lets_limit(board, [board.blocks(ask) for ask in asks], board.full, thing, ())


def _lets_sure(board, rows, bits, thing, path):
    """Return the number of what should be a sure tree for the asks with these blocks, in these worlds."""
    if not isinstance(thing, tuple) or len(thing) != len(rows) or not all([is_answer(answer) for answer in thing]):
        raise InvalidPaper("shape", path)
    found = []
    for j, (grouping, trees) in enumerate(thing):
        parts = lets_answer(board, rows[j], bits, thing[j], (*path, j))
        others = [*rows[:j], *rows[j + 1:]]
        for n, part in enumerate(parts):
            number = _lets_sure(board, others, part, trees[n], (*path, j, n))
            found.append(whole_answer(grouping[n]) + number)
    return min(found, default=0)


def _lets_limit(board, rows, bits, thing, path):
    """Return the number of what should be a limit tree for the asks with these blocks, in these worlds."""
    shaped = _has_limit_shape(thing) if rows else same(thing, ())
    if not shaped:
        raise InvalidPaper("shape", path)
    if not rows:
        return 0
    index, stated = thing
    if index >= len(rows):
        raise InvalidPaper("index", path)
    if not same([row[0] for row in stated], board.mum_groupings(rows[index], bits)):
        raise InvalidPaper("rows", path)
    others = [*rows[:index], *rows[index + 1:]]
    found = []
    for r, (grouping, n, tree) in enumerate(stated):
        if n >= len(grouping):
            raise InvalidPaper("group", (*path, r))
        number = _lets_limit(board, others, worlds_behind(rows[index], bits, grouping[n]), tree, (*path, r))
        found.append(whole_answer(grouping[n]) + number)
    return max(found)


def _has_limit_shape(thing):
    if not is_pair(thing) or not is_number(thing[0]) or not isinstance(thing[1], tuple):
        return False
    return all([isinstance(row, tuple) and len(row) == 3 and is_number(row[1]) for row in thing[1]])
