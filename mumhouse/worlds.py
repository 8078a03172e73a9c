"""The worlds of a house, and which of them are possible."""

from mumhouse.kinds import is_integer
from mumhouse.values import values_over


def possible_worlds(house):
    """Yield all possible worlds of a house, ascending."""
    # The numbers of all people stand in one row, so that the worlds ascend as the rows do.
    bounds = [(low, high) for _ in house[0] for _, low, high in house[1]]
    row = [low for low, _ in bounds]
    while row is not None:
        world = _world_of(row, len(house[1]))
        if are_possible(house, (world,))[0]:
            yield world
        row = _next_row(row, bounds)


def how_many_worlds(house):
    """Return the number of the possible worlds of a house."""
    return len(list(possible_worlds(house)))


def is_world(house, thing):
    """Return whether any value is a world of the house, possible or not."""
    if not isinstance(thing, tuple) or len(thing) != len(house[0]):
        return False
    return all([_is_row(house, row) for row in thing])


def is_possible(house, thing):
    """Return whether any value is a possible world of the house."""
    return is_world(house, thing) and are_possible(house, (thing,))[0]


def are_possible(house, worlds):
    """Return the list of whether all rules are true in each of some worlds of the house."""
    truths = [values_over(house, worlds, rule) for rule in house[2]]
    return [all([column[n] for column in truths]) for n in range(len(worlds))]


def _is_row(house, row):
    """Return whether any value has an integer within the bounds for each field."""
    fields = house[1]
    if not isinstance(row, tuple) or len(row) != len(fields):
        return False
    return all([is_integer(number) and low <= number <= high for number, (_, low, high) in zip(row, fields)])


def _world_of(row, many):
    """Return a row of numbers as a world with so many fields."""
    return tuple([tuple(row[at:at + many]) for at in range(0, len(row), many)])


def _next_row(row, bounds):
    """Return the row of numbers that follows this one, or None behind the last one."""
    for k in reversed(range(len(row))):
        if row[k] < bounds[k][1]:
            return [*row[:k], row[k] + 1, *[low for low, _ in bounds[k + 1:]]]
    return None
