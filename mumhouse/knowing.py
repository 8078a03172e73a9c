"""What is known of statements and asks where some worlds are possible."""

from itertools import combinations

from mumhouse.expressions import lets_ask, lets_statement
from mumhouse.kinds import is_integer, is_part
from mumhouse.values import values_over


def known(house, worlds, statement):
    """Return True or False if the statement is so in all of the worlds, otherwise None."""
    lets_statement(house, statement)
    truths = values_over(house, worlds, statement)
    if all(truths):
        return True
    return None if any(truths) else False


def values_in(house, worlds, ask):
    """Return the set of the values that the ask has in the worlds."""
    lets_ask(house, ask)
    return tuple(sorted(set(values_over(house, worlds, ask))))


def block(house, worlds, ask, value):
    """Return the set of the worlds in which the ask has this value, which may be any value."""
    lets_ask(house, ask)
    if not is_integer(value):
        return ()
    return tuple([world for world, found in zip(worlds, values_over(house, worlds, ask)) if found == value])


def is_settled(house, worlds, ask):
    """Return whether the ask has only one value in the worlds."""
    return len(values_in(house, worlds, ask)) == 1


def settled_by(house, worlds, asks, ask):
    """Return whether the ask has the same value wherever each of the asks has."""
    lets_asks(house, asks, ask)
    return _settles([values_over(house, worlds, each) for each in asks], values_over(house, worlds, ask))


def fewest_settling(house, worlds, asks, ask):
    """Return all sets of indexes of asks that settle the ask while no proper part of them does."""
    lets_asks(house, asks, ask)
    columns = [values_over(house, worlds, each) for each in asks]
    values = values_over(house, worlds, ask)
    found = []
    for size in range(len(asks) + 1):
        for picks in combinations(range(len(asks)), size):
            if not any([is_part(fewer, picks) for fewer in found]):
                if _settles([columns[k] for k in picks], values):
                    found.append(picks)
    return tuple(sorted(found))


def lets_asks(house, asks, ask):
    """Raise UnfitExpression for the first of asks, and then ask, that is no ask of the house."""
    for each in (*asks, ask):
        lets_ask(house, each)


def _settles(columns, values):
    """Return whether these columns, all together, are alike only where the values are alike."""
    first = {}
    for n, value in enumerate(values):
        if first.setdefault(tuple([column[n] for column in columns]), value) != value:
            return False
    return True
