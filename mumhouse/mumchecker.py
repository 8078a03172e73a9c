"""Whether a value is a mum paper; the paper is confirmed without searching for another one."""

from mumhouse.boards import Board
from mumhouse.errors import InvalidPaper
from mumhouse.kinds import is_among, is_names, is_number, same
from mumhouse.knowing import known


def lets_mum(hall, thing):
    """Return True for a paper "mum" and False for a paper "tells", or raise InvalidPaper."""
    if not _has_shape(thing):
        raise InvalidPaper("shape", -1)
    if thing[0] == "mum":
        _check_mum(hall, thing[1])
        return True
    _check_tells(hall, thing[1:])
    return False


def is_mum_paper(hall, thing, word):
    """Return whether any value is a mum paper of the hall with this word, "mum" or "tells"."""
    try:
        lets_mum(hall, thing)
    except InvalidPaper:
        return False
    return thing[0] == word


def _check_mum(hall, rows):
    board = Board(hall)
    dangers = board.dangers()
    for n, (few, k, view, false) in enumerate(dangers):
        if n >= len(rows) or not same(rows[n][:3], (few, k, board.least(view))):
            raise InvalidPaper("row", n)
        other = rows[n][3]
        if not is_among(other, board.worlds_in(view)):
            raise InvalidPaper("world", n)
        if other not in board.worlds_in(false):
            raise InvalidPaper("true", n)
    if len(rows) > len(dangers):
        raise InvalidPaper("many", -1)


def _check_tells(hall, told):
    few, k, world = told
    house, askers, secrets, most = hall.scene
    if not is_names(few) or len(few) > most or not all([name in askers for name in few]):
        raise InvalidPaper("few", -1)
    if not is_number(k) or k >= len(secrets) or any([name in secrets[k][1] for name in few]):
        raise InvalidPaper("secret", -1)
    if world not in hall:
        raise InvalidPaper("world", -1)
    if not known(house, hall.view(few, world), secrets[k][0]):
        raise InvalidPaper("false", -1)


def _has_shape(thing):
    if not isinstance(thing, tuple) or len(thing) not in (2, 4):
        return False
    if len(thing) == 4:
        return thing[0] == "tells"
    return thing[0] == "mum" and isinstance(thing[1], tuple) and all([_is_row(row) for row in thing[1]])


def _is_row(row):
    return isinstance(row, tuple) and len(row) == 4
