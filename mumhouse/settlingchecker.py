"""Whether a value is a settling paper; the paper is confirmed without searching for another one."""

from mumhouse.errors import InvalidPaper
from mumhouse.kinds import is_among, is_integer
from mumhouse.knowing import lets_asks
from mumhouse.values import value_of, values_of


def lets_settling(house, worlds, asks, ask, thing):
    """Return True for a paper "settled" and False for a paper "open", or raise InvalidPaper."""
    lets_asks(house, asks, ask)
    if not _has_shape(thing):
        raise InvalidPaper("shape", -1)
    if thing[0] == "settled":
        _check_settled(house, worlds, asks, ask, thing[1])
        return True
    _check_open(house, worlds, asks, ask, thing[1:])
    return False


def _check_settled(house, worlds, asks, ask, rows):
    for k in range(1, len(rows)):
        if rows[k][0] <= rows[k - 1][0]:
            raise InvalidPaper("rise", k)
    stated = {values: value for values, value in rows}
    reached = {}
    for n, world in enumerate(worlds):
        values = values_of(house, world, *asks)
        reached[values] = True
        if values not in stated:
            raise InvalidPaper("row", n)
        if stated[values] != value_of(house, world, ask):
            raise InvalidPaper("value", n)
    for k, (values, _) in enumerate(rows):
        if values not in reached:
            raise InvalidPaper("idle", k)


def _check_open(house, worlds, asks, ask, pair):
    for k, world in enumerate(pair):
        if not is_among(world, worlds):
            raise InvalidPaper("world", k)
    one, other = pair
    for j, each in enumerate(asks):
        if value_of(house, one, each) != value_of(house, other, each):
            raise InvalidPaper("asks", j)
    if value_of(house, one, ask) == value_of(house, other, ask):
        raise InvalidPaper("same", -1)


def _has_shape(thing):
    if not isinstance(thing, tuple) or len(thing) not in (2, 3):
        return False
    if len(thing) == 3:
        return thing[0] == "open"
    return thing[0] == "settled" and isinstance(thing[1], tuple) and all([_is_row(row) for row in thing[1]])


def _is_row(row):
    if not isinstance(row, tuple) or len(row) != 2:
        return False
    values, value = row
    return isinstance(values, tuple) and all([is_integer(each) for each in values]) and is_integer(value)
