"""The values of expressions in the worlds of a house."""

from mumhouse.expressions import plain_parts
from mumhouse.kinds import is_integer


def _plus(a, b):
    return a + b


def _minus(a, b):
    return a - b


def _times(a, b):
    return a * b


def _least(a, b):
    return min(a, b)


def _most(a, b):
    return max(a, b)


def _equal(a, b):
    return a == b


def _less(a, b):
    return a < b


def _both(a, b):
    return a and b


def _either(a, b):
    return a or b


# What is done with the values of two parts.
PAIRED = {
    "+": _plus,
    "-": _minus,
    "*": _times,
    "least": _least,
    "most": _most,
    "=": _equal,
    "<": _less,
    "and": _both,
    "or": _either,
}


def value_of(house, world, ask):
    """Return the value of an ask of the house in a world of it, possible or not."""
    return values_over(house, (world,), ask)[0]


def is_true(house, world, statement):
    """Return whether a statement of the house is true in a world of it, possible or not."""
    return values_over(house, (world,), statement)[0]


def values_of(house, world, *asks):
    """Return the tuple of the values of asks of the house in a world of it."""
    return tuple([value_of(house, world, ask) for ask in asks])


def values_over(house, worlds, expression):
    """Return the list of the values that an ask or a statement of the house has in each of some worlds."""
    # A part has a column: its value in each world for each person as the one that "my" means. No "my" reaches out
    # of a "count" or "sum", so their columns have one value for all people, and nothing has to be computed twice.
    columns = []
    for part in reversed(plain_parts(expression)):
        given = [columns.pop() for _ in range(_many_parts(part))]
        columns.append(_column(house, worlds, part, given))
    return columns[0][::len(house[0])]


def _many_parts(part):
    """Return how many parts stand directly in a part."""
    if is_integer(part):
        return 0
    return len([item for item in part if not isinstance(item, str)])


def _column(house, worlds, part, given):
    """Return the column of a part, given those of the parts directly in it."""
    people = house[0]
    if is_integer(part):
        return [part] * (len(worlds) * len(people))
    word = part[0]
    if word == "of":
        person, place = people.index(part[1]), _place(house, part[2])
        return [world[person][place] for world in worlds for _ in people]
    if word == "my":
        place = _place(house, part[1])
        return [row[place] for world in worlds for row in world]
    if word == "if":
        return [a if c else b for c, a, b in zip(given[0], given[1], given[2])]
    if word == "count":
        return _totals(people, [1 if c else 0 for c in given[0]])
    if word == "sum":
        return _totals(people, [a if c else 0 for a, c in zip(given[0], given[1])])
    if word == "not":
        return [not c for c in given[0]]
    action = PAIRED[word]
    return [action(a, b) for a, b in zip(given[0], given[1])]


def _totals(people, column):
    """Return the column of the sums over all people."""
    many = len(people)
    totals = [sum(column[at:at + many]) for at in range(0, len(column), many)]
    return [total for total in totals for _ in people]


def _place(house, name):
    return [field[0] for field in house[1]].index(name)
