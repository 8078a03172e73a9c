"""What is known by whoever hears groups of the values of some asks."""

from mumhouse.errors import InvalidGrouping
from mumhouse.expressions import lets_ask
from mumhouse.groupings import is_groups
from mumhouse.kinds import is_integer
from mumhouse.knowing import known, values_in
from mumhouse.values import values_over


def worlds_of_group(house, worlds, ask, group):
    """Return the set of the worlds in which the ask has a value of the group."""
    lets_ask(house, ask)
    return tuple([world for world, value in zip(worlds, values_over(house, worlds, ask)) if value in group])


def partition_by(house, worlds, asked):
    """Return the ascending tuple of all classes of worlds that look alike."""
    lets_asked(house, worlds, asked)
    return _classes(worlds, looks(house, worlds, asked))


def worlds_like(house, worlds, asked, world):
    """Return the class of one of the worlds."""
    for some in partition_by(house, worlds, asked):
        if world in some:
            return some
    return ()


def worlds_knowing(house, worlds, asked, statement):
    """Return the set of the worlds in whose class the statement is true in all worlds."""
    classes = partition_by(house, worlds, asked)
    return tuple(sorted([world for some in classes if known(house, some, statement) for world in some]))


def implied_grouping(house, worlds, asked, ask):
    """Return the grouping of the ask with the most groups such that it has values of one group in each class."""
    classes = partition_by(house, worlds, asked)
    groups = [(value,) for value in values_in(house, worlds, ask)]
    for some in classes:
        values = values_in(house, some, ask)
        apart = [group for group in groups if not _meet(group, values)]
        joined = [value for group in groups if _meet(group, values) for value in group]
        groups = [*apart, tuple(sorted(joined))]
    return tuple(sorted(groups))


def lets_asked(house, worlds, asked):
    """Raise an error for the first of the pairs (ask, grouping) that do not fit."""
    for ask, grouping in asked:
        values = values_in(house, worlds, ask)
        if not is_groups(grouping):
            raise InvalidGrouping("shape", -1)
        if not has_values(grouping, values):
            raise InvalidGrouping("values", -1)


def has_values(grouping, values):
    """Return whether each of the values is in a group of the grouping."""
    return all([any([value in group for group in grouping]) for value in values])


def looks(house, worlds, asked):
    """Return for each of the worlds the tuple of the indexes of the groups in which it is for the pairs of asked."""
    columns = []
    for ask, grouping in asked:
        places = {value: k for k, group in enumerate(grouping) for value in group}
        columns.append([places[value] for value in values_over(house, worlds, ask)])
    return [tuple([column[n] for column in columns]) for n in range(len(worlds))]


def values_between(house, worlds, asked, ask, one, other):
    """Return the values of the ask in the worlds; raise an error if asked, the ask, one or other do not fit."""
    lets_asked(house, worlds, asked)
    values = values_in(house, worlds, ask)
    for value in (one, other):
        if not is_integer(value) or value not in values:
            raise InvalidGrouping("value", value)
    return values_over(house, worlds, ask)


def _classes(worlds, seen):
    """Return the tuple of the sets of the worlds that are seen alike, in the order of their least worlds."""
    found = {}
    for world, look in zip(worlds, seen):
        found.setdefault(look, []).append(world)
    return tuple([tuple(found[look]) for look in found])


def _meet(group, values):
    return any([value in group for value in values])
